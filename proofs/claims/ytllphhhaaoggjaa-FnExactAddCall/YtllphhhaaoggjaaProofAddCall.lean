/-
  At every argument AddCall answers as the model does, field by field; it writes into no argument, and its answer owns its memory.
-/
import Derived.Test.YtllphhhaaoggjaaRows
import Derived.WalkKit
import Derived.ProofKit
import Derived.OpenShut
import Derived.ChangeOld
import Derived.Below
import Derived.Test.YtllphhhaaoggjaaLedL
import Derived.Test.YtllphhhaaoggjaaPersP
import Derived.Test.YtllphhhaaoggjaaPersT
import Derived.Test.YtllphhhaaoggjaaOpenI
import Derived.Test.YtllphhhaaoggjaaOpenL
namespace Go.Proofs.Ytllphhhaaoggjaa.fnExactAddCall
open Go.ChangeShapes Go.WideShapes Go.ChangeAt Go.RowKit
set_option linter.unusedVariables false
set_option linter.unusedSimpArgs false

theorem own : ownKnob Try.prog.godebug = none := by kernel_rfl
theorem laidOut : laidOutB Try.prog = true := by kernel_rfl

set_option maxRecDepth 20000 in
set_option maxHeartbeats 32000000 in
theorem walk (a0 : Pl.Hs) (a1 : Pl.Lg) (a2 : Int) (a3 : Int) (a4 : Int) (a5 : Int) (w0 : ∀ x ∈ [a0.fl, a0.gp, a0.ln, a0.rf, a0.sp, a0.pu, a0.br, a0.dr, a0.lv, a0.dO, a0.ld, a0.qu], (Lit.int .i64 x).wf = true) (p1 : Option Addr) (n1 : Nat) (w1 : (Lit.int .i64 a1.nx).wf = true) (u1 : wfL a1.ps) (l1 : a1.ps.length ≤ maxLen) (w2 : (Lit.int .i64 a2).wf = true) (w3 : (Lit.int .i64 a3).wf = true) (w4 : (Lit.int .i64 a4).wf = true) (w5 : (Lit.int .i64 a5).wf = true) (w : World) (q1 : PIn w w.heap.size p1 a1.ps) :
    Calls Try.prog 6 #[.agg #[.int .i64 a0.fl, .int .i64 a0.gp, .int .i64 a0.ln, .int .i64 a0.rf, .int .i64 a0.sp, .int .i64 a0.pu, .int .i64 a0.br, .int .i64 a0.dr, .int .i64 a0.lv, .int .i64 a0.dO, .int .i64 a0.ld, .int .i64 a0.qu], .agg #[.int .i64 a1.nx, .slice p1 a1.ps.length n1], .int .i64 a2, .int .i64 a3, .int .i64 a4, .int .i64 a5] w fun e w' => e = .returned (.bool true) ∧ Below w.heap.size w w' := by
  have HP : Hid (PIn w w.heap.size p1 a1.ps) := q1
  clear q1 w0
  have F0 : Hid (HAt ((w.alloc (.cells #[.int .i64 a0.fl, .int .i64 a0.gp, .int .i64 a0.ln, .int .i64 a0.rf, .int .i64 a0.sp, .int .i64 a0.pu, .int .i64 a0.br, .int .i64 a0.dr, .int .i64 a0.lv, .int .i64 a0.dO, .int .i64 a0.ld, .int .i64 a0.qu] 40)).alloc (.cells #[.int .i64 a1.nx, .slice p1 a1.ps.length n1] 43)) w.heap.size a0) := (HAt.new w a0 _).below ((Below.refl _ _).alloc (Nat.le_refl _) _) (by simp)
  have F1 : Hid (LW ((w.alloc (.cells #[.int .i64 a0.fl, .int .i64 a0.gp, .int .i64 a0.ln, .int .i64 a0.rf, .int .i64 a0.sp, .int .i64 a0.pu, .int .i64 a0.br, .int .i64 a0.dr, .int .i64 a0.lv, .int .i64 a0.dO, .int .i64 a0.ld, .int .i64 a0.qu] 40)).alloc (.cells #[.int .i64 a1.nx, .slice p1 a1.ps.length n1] 43)) (w.heap.size + 1) a1.nx (.slice p1 a1.ps.length n1)) := LW.at_ _ a1.nx (.slice p1 a1.ps.length n1) _ _ (by simp)
  have FB : Hid (Below w.heap.size w ((w.alloc (.cells #[.int .i64 a0.fl, .int .i64 a0.gp, .int .i64 a0.ln, .int .i64 a0.rf, .int .i64 a0.sp, .int .i64 a0.pu, .int .i64 a0.br, .int .i64 a0.dr, .int .i64 a0.lv, .int .i64 a0.dO, .int .i64 a0.ld, .int .i64 a0.qu] 40)).alloc (.cells #[.int .i64 a1.nx, .slice p1 a1.ps.length n1] 43))) := ((Below.refl _ _).alloc (Nat.le_refl _) _).alloc (by simp) _
  by_cases hl : a1.ps.length ≤ 1048576
  case neg =>
    have hs : (if (1048576 : Int) < a1.ps.length then (-1 : Int) else 1048576 - a1.ps.length) = -1 := if_pos (by omega)
    go_enter Try.func6, Try.ntmps6
    go_wp2_with (go_at_call 19; refine (szLedger_any a1.nx p1 a1.ps.length n1 1048576 (by omega) (by omega) l1 _).mono ?_; rw [hs]; rintro e w1 ⟨rfl, hb⟩; have FB : Hid (Below w.heap.size w w1) := FB.out.trans (hb.mono FB.out.size))
    go_ret
    exact ⟨by simp, FB.out⟩
  case pos =>
    obtain ⟨rk, ri, rn, rl, hrl, CS, CI⟩ : ∃ (rk ri rn : Int) (rl : List Pl.Pe), rl.length ≤ 1048576 ∧ (∀ (B g : Nat) (W : World), Ow W B g a1.ps.length a1.ps.length a1.ps → Calls Try.prog 27 #[.agg #[.int .i64 a0.fl, .int .i64 a0.gp, .int .i64 a0.ln, .int .i64 a0.rf, .int .i64 a0.sp, .int .i64 a0.pu, .int .i64 a0.br, .int .i64 a0.dr, .int .i64 a0.lv, .int .i64 a0.dO, .int .i64 a0.ld, .int .i64 a0.qu], .agg #[.int .i64 a1.nx, .slice (some ⟨g, 0, none⟩) a1.ps.length a1.ps.length], .int .i64 a2, .int .i64 a3, .int .i64 a4, .int .i64 a5] W (isLedS W rk ri rn rl)) ∧ (∀ (B g : Nat) (W : World), Ow W B g a1.ps.length a1.ps.length a1.ps → Calls Try.prog 28 #[.agg #[.int .i64 a0.fl, .int .i64 a0.gp, .int .i64 a0.ln, .int .i64 a0.rf, .int .i64 a0.sp, .int .i64 a0.pu, .int .i64 a0.br, .int .i64 a0.dr, .int .i64 a0.lv, .int .i64 a0.dO, .int .i64 a0.ld, .int .i64 a0.qu], .agg #[.int .i64 a1.nx, .slice (some ⟨g, 0, none⟩) a1.ps.length a1.ps.length], .int .i64 a2, .int .i64 a3, .int .i64 a4, .int .i64 a5] W (isLedS W rk ri rn rl)) :=
      ⟨_, _, _, _, addV_le a0 a1 a2 a3 a4 a5, fun B g W ho => (specAddCall_any a0 a1 a2 a3 a4 a5 g 0 _ hl W ho.bl.2 (fun i p hp => by rw [Nat.zero_add]; exact ho.p7 hp)).mono (fun _ _ h => h.s), fun B g W ho => (implAddCall_any a0 a1 a2 a3 a4 a5 g 0 _ hl W ho.bl.2 (fun i p hp => by rw [Nat.zero_add]; exact ho.p7 hp)).mono (fun _ _ h => h.s)⟩
    have hs : (if (1048576 : Int) < a1.ps.length then (-1 : Int) else 1048576 - a1.ps.length) = 1048576 - a1.ps.length := if_neg (by omega)
    have hs2 : ¬ ((1048576 : Int) - a1.ps.length < 0) := by omega
    go_enter Try.func6, Try.ntmps6
    go_wp2_with (go_at_call 19; refine (szLedger_any a1.nx p1 a1.ps.length n1 1048576 (by omega) (by omega) l1 _).mono ?_; rw [hs]; rintro e w1 ⟨rfl, hb⟩; have F0 : Hid (HAt w1 w.heap.size a0) := F0.out.below hb F0.out.lt; have F1 : Hid (LW w1 (w.heap.size + 1) a1.nx (.slice p1 a1.ps.length n1)) := F1.out.below hb F1.out.lt; have FB : Hid (Below w.heap.size w w1) := FB.out.trans (hb.mono FB.out.size); clear hb; obtain ⟨x0_0, x0_1, x0_2, x0_3, x0_4, x0_5, x0_6, x0_7, x0_8, x0_9, x0_10, x0_11⟩ := F0.out; obtain ⟨m0, m1, m2, m3⟩ := F1.out)
    go_cut [14] (fun t wx => ∃ b1 s1 c1, t = .pointer (some ⟨b1, 0, none⟩) ∧ HAt wx w.heap.size a0 ∧ LW wx (w.heap.size + 1) a1.nx (.slice p1 a1.ps.length n1) ∧ Below w.heap.size w wx ∧ LR wx b1 rk ri rn (.slice s1 rl.length c1) ∧ Own wx w.heap.size (.slice s1 rl.length c1) rl)
    case first =>
      have F0 : Hid (HAt w1.drew w.heap.size a0) := F0.out.below (Below.refl _ _).drew F0.out.lt
      have F1 : Hid (LW w1.drew (w.heap.size + 1) a1.nx (.slice p1 a1.ps.length n1)) := F1.out.below (Below.refl _ _).drew F1.out.lt
      have FB : Hid (Below w.heap.size w w1.drew) := FB.out.drew
      obtain ⟨x0_0, x0_1, x0_2, x0_3, x0_4, x0_5, x0_6, x0_7, x0_8, x0_9, x0_10, x0_11⟩ := F0.out
      have m0 := F1.out.c0
      have m1 := F1.out.c1
      refine wp_region_held_drew (S := (fun w'' => w''.cell? ⟨w.heap.size, 0, none⟩ = some (.int .i64 a0.fl) ∧ w''.cell? ⟨w.heap.size, 1, none⟩ = some (.int .i64 a0.gp) ∧ w''.cell? ⟨w.heap.size, 2, none⟩ = some (.int .i64 a0.ln) ∧ w''.cell? ⟨w.heap.size, 3, none⟩ = some (.int .i64 a0.rf) ∧ w''.cell? ⟨w.heap.size, 4, none⟩ = some (.int .i64 a0.sp) ∧ w''.cell? ⟨w.heap.size, 5, none⟩ = some (.int .i64 a0.pu) ∧ w''.cell? ⟨w.heap.size, 6, none⟩ = some (.int .i64 a0.br) ∧ w''.cell? ⟨w.heap.size, 7, none⟩ = some (.int .i64 a0.dr) ∧ w''.cell? ⟨w.heap.size, 8, none⟩ = some (.int .i64 a0.lv) ∧ w''.cell? ⟨w.heap.size, 9, none⟩ = some (.int .i64 a0.dO) ∧ w''.cell? ⟨w.heap.size, 10, none⟩ = some (.int .i64 a0.ld) ∧ w''.cell? ⟨w.heap.size, 11, none⟩ = some (.int .i64 a0.qu) ∧ w''.cell? ⟨w.heap.size + 1, 0, none⟩ = some (.int .i64 a1.nx) ∧ w''.cell? ⟨w.heap.size + 1, 1, none⟩ = some (.slice p1 a1.ps.length n1))) (by kernel_rfl) (by (try dsimp only); first | exact ⟨x0_0, x0_1, x0_2, x0_3, x0_4, x0_5, x0_6, x0_7, x0_8, x0_9, x0_10, x0_11, m0, m1⟩ | go_keep) (fun hHeld => ?_)
      obtain ⟨v_1, hw1⟩ : ∃ v_1, v_1 = w1.drew := ⟨_, rfl⟩
      have F0 : Hid (HAt v_1 w.heap.size a0) := by rw [hw1]; exact F0.out
      have F1 : Hid (LW v_1 (w.heap.size + 1) a1.nx (.slice p1 a1.ps.length n1)) := by rw [hw1]; exact F1.out
      have FB : Hid (Below w.heap.size w v_1) := by rw [hw1]; exact FB.out
      rw [← hw1] at hHeld ⊢
      clear hw1
      obtain ⟨x0_0, x0_1, x0_2, x0_3, x0_4, x0_5, x0_6, x0_7, x0_8, x0_9, x0_10, x0_11⟩ := F0.out
      have m0 := F1.out.c0
      have m1 := F1.out.c1
      refine wpAnyH_take (i := 0) (v := _) rfl (by kernel_rfl) (by kernel_rfl) (by kernel_rfl) (fun _ _ _ h => h) (Or.inl ⟨by kernel_rfl, by (intro wx hSw; (try dsimp only at hSw); go_simp <;> with_reducible rfl)⟩) (by assumption) ?_
      try simp only [Act.put, List.getElem_toArray, List.getElem_cons_succ, List.getElem_cons_zero, List.setIfInBounds_toArray, List.set_cons_zero, List.set_cons_succ]
      refine wpAnyH_take (i := 2) (v := _) rfl (by kernel_rfl) (by kernel_rfl) (by kernel_rfl) (fun _ _ _ h => h) (Or.inl ⟨by kernel_rfl, by (intro wx hSw; (try dsimp only at hSw); go_simp <;> with_reducible rfl)⟩) (by assumption) ?_
      try simp only [Act.put, List.getElem_toArray, List.getElem_cons_succ, List.getElem_cons_zero, List.setIfInBounds_toArray, List.set_cons_zero, List.set_cons_succ]
      refine wpAnyH_take (i := 4) (v := _) rfl (by kernel_rfl) (by kernel_rfl) (by kernel_rfl) (fun _ _ _ h => h) (Or.inl ⟨by kernel_rfl, by (intro wx hSw; (try dsimp only at hSw); go_simp <;> with_reducible rfl)⟩) (by assumption) ?_
      try simp only [Act.put, List.getElem_toArray, List.getElem_cons_succ, List.getElem_cons_zero, List.setIfInBounds_toArray, List.set_cons_zero, List.set_cons_succ]
      refine wpAnyH_take (i := 5) (v := _) rfl (by kernel_rfl) (by kernel_rfl) (by kernel_rfl) (fun _ _ _ h => h) (Or.inl ⟨by kernel_rfl, by (intro wx hSw; (try dsimp only at hSw); go_simp <;> with_reducible rfl)⟩) (by assumption) ?_
      try simp only [Act.put, List.getElem_toArray, List.getElem_cons_succ, List.getElem_cons_zero, List.setIfInBounds_toArray, List.set_cons_zero, List.set_cons_succ]
      refine wpAnyH_take (i := 6) (v := _) rfl (by kernel_rfl) (by kernel_rfl) (by kernel_rfl) (fun _ _ _ h => h) (Or.inl ⟨by kernel_rfl, by (intro wx hSw; (try dsimp only at hSw); go_simp <;> with_reducible rfl)⟩) (by assumption) ?_
      try simp only [Act.put, List.getElem_toArray, List.getElem_cons_succ, List.getElem_cons_zero, List.setIfInBounds_toArray, List.set_cons_zero, List.set_cons_succ]
      refine wpAnyH_take (i := 7) (v := _) rfl (by kernel_rfl) (by kernel_rfl) (by kernel_rfl) (fun _ _ _ h => h) (Or.inl ⟨by kernel_rfl, by (intro wx hSw; (try dsimp only at hSw); go_simp <;> with_reducible rfl)⟩) (by assumption) ?_
      try simp only [Act.put, List.getElem_toArray, List.getElem_cons_succ, List.getElem_cons_zero, List.setIfInBounds_toArray, List.set_cons_zero, List.set_cons_succ]
      refine wpAnyH_ready (rs := [1, 9]) (by kernel_rfl) (by simp) ?_
      refine (AllReadyH.cons rfl (fun K hK => ?_) (AllReadyH.cons rfl (fun K hK => ?_) AllReadyH.nil))
      · go_simp
        refine (toHouse_any a0 _).mono ?_
        rintro e v_2 ⟨rfl, hb⟩
        have F0 : Hid (HAt v_2 w.heap.size a0) := F0.out.below hb F0.out.lt
        have F1 : Hid (LW v_2 (w.heap.size + 1) a1.nx (.slice p1 a1.ps.length n1)) := F1.out.below hb F1.out.lt
        have FB : Hid (Below w.heap.size w v_2) := FB.out.trans (hb.mono FB.out.size)
        clear hb
        obtain ⟨x0_0, x0_1, x0_2, x0_3, x0_4, x0_5, x0_6, x0_7, x0_8, x0_9, x0_10, x0_11⟩ := F0.out
        have m0 := F1.out.c0
        have m1 := F1.out.c1
        try dsimp only
        refine hK.out _ _ (by (try dsimp only); first | exact ⟨x0_0, x0_1, x0_2, x0_3, x0_4, x0_5, x0_6, x0_7, x0_8, x0_9, x0_10, x0_11, m0, m1⟩ | go_keep) (fun hHeld => ?_)
        clear hK K
        try simp only [Act.put, List.getElem_toArray, List.getElem_cons_succ, List.getElem_cons_zero, List.setIfInBounds_toArray, List.set_cons_zero, List.set_cons_succ]
        refine wpAnyH_ready (rs := [3, 9]) (by kernel_rfl) (by simp) ?_
        refine (AllReadyH.cons rfl (fun K hK => ?_) (AllReadyH.cons rfl (fun K hK => ?_) AllReadyH.nil))
        · go_simp
          refine (toLedger_any a1.nx p1 n1 a1.ps hl _ ((HP.out.below FB.out (Nat.le_refl _)).mono FB.out.size)).mono ?_
          rintro e v_3 ⟨g1, rfl, ho, hb⟩
          have Gg1 : Hid (Ow v_3 w.heap.size g1 a1.ps.length a1.ps.length a1.ps) := ho.base FB.out.size
          have F0 : Hid (HAt v_3 w.heap.size a0) := F0.out.below hb F0.out.lt
          have F1 : Hid (LW v_3 (w.heap.size + 1) a1.nx (.slice p1 a1.ps.length n1)) := F1.out.below hb F1.out.lt
          have FB : Hid (Below w.heap.size w v_3) := FB.out.trans (hb.mono FB.out.size)
          clear hb
          obtain ⟨x0_0, x0_1, x0_2, x0_3, x0_4, x0_5, x0_6, x0_7, x0_8, x0_9, x0_10, x0_11⟩ := F0.out
          have m0 := F1.out.c0
          have m1 := F1.out.c1
          clear ho
          try dsimp only
          refine hK.out _ _ (by (try dsimp only); first | exact ⟨x0_0, x0_1, x0_2, x0_3, x0_4, x0_5, x0_6, x0_7, x0_8, x0_9, x0_10, x0_11, m0, m1⟩ | go_keep) (fun hHeld => ?_)
          clear hK K
          try simp only [Act.put, List.getElem_toArray, List.getElem_cons_succ, List.getElem_cons_zero, List.setIfInBounds_toArray, List.set_cons_zero, List.set_cons_succ]
          refine wpAnyH_ready (rs := [8, 9]) (by kernel_rfl) (by simp) ?_
          refine (AllReadyH.cons rfl (fun K hK => ?_) (AllReadyH.cons rfl (fun K hK => ?_) AllReadyH.nil))
          · go_simp
            refine (CS w.heap.size g1 _ Gg1.out).mono ?_
            rintro e v_4 ⟨s1, c1, rfl, ho, hb⟩
            first | (have nq1 : ∀ k, (Value.slice s1 rl.length c1).ownBlock = some k → b1 < k := fun k hk => Nat.lt_of_lt_of_le FZ.out.lt (ho.lt k hk).1) | skip
            have FO1 : Hid (Own v_4 w.heap.size (.slice s1 rl.length c1) rl) := ho.base FB.out.size
            have F0 : Hid (HAt v_4 w.heap.size a0) := F0.out.below hb F0.out.lt
            have F1 : Hid (LW v_4 (w.heap.size + 1) a1.nx (.slice p1 a1.ps.length n1)) := F1.out.below hb F1.out.lt
            have FB : Hid (Below w.heap.size w v_4) := FB.out.trans (hb.mono FB.out.size)
            have Gg1 : Hid (Ow v_4 w.heap.size g1 a1.ps.length a1.ps.length a1.ps) := Gg1.out.below hb Gg1.out.lt
            clear hb
            obtain ⟨x0_0, x0_1, x0_2, x0_3, x0_4, x0_5, x0_6, x0_7, x0_8, x0_9, x0_10, x0_11⟩ := F0.out
            have m0 := F1.out.c0
            have m1 := F1.out.c1
            clear ho
            try dsimp only
            refine hK.out _ _ (by (try dsimp only); first | exact ⟨x0_0, x0_1, x0_2, x0_3, x0_4, x0_5, x0_6, x0_7, x0_8, x0_9, x0_10, x0_11, m0, m1⟩ | go_keep) (fun hHeld => ?_)
            clear hK K
            try simp only [Act.put, List.getElem_toArray, List.getElem_cons_succ, List.getElem_cons_zero, List.setIfInBounds_toArray, List.set_cons_zero, List.set_cons_succ]
            refine wpAnyH_ready (rs := [9]) (by kernel_rfl) (by simp) ?_
            refine (AllReadyH.cons rfl (fun K hK => ?_) AllReadyH.nil)
            go_simp
            obtain ⟨b1, hbb⟩ : ∃ b1, b1 = v_4.heap.size := ⟨_, rfl⟩
            obtain ⟨v_5, hw2⟩ : ∃ v_5, v_5 = v_4.alloc (.cells #[.int .i64 0, .int .i64 0, .int .i64 0, .slice none 0 0] 53) := ⟨_, rfl⟩
            have nb1_0 := F0.out.lt
            rw [← hbb] at nb1_0
            have nb1_1 := F1.out.lt
            rw [← hbb] at nb1_1
            have nb1_3 := Gg1.out.lt
            rw [← hbb] at nb1_3
            have nb1_oFO1 := fun k hk => (FO1.out.lt k hk).2
            rw [← hbb] at nb1_oFO1
            have FZ : Hid (RL v_5 b1) := by rw [hw2]; exact RL.at_ _ _ _ hbb
            have F0 : Hid (HAt v_5 w.heap.size a0) := by rw [hw2]; exact F0.out.alloc _
            have F1 : Hid (LW v_5 (w.heap.size + 1) a1.nx (.slice p1 a1.ps.length n1)) := by rw [hw2]; exact F1.out.alloc _
            have FB : Hid (Below w.heap.size w v_5) := by rw [hw2]; exact FB.out.alloc FB.out.size _
            have Gg1 : Hid (Ow v_5 w.heap.size g1 a1.ps.length a1.ps.length a1.ps) := by rw [hw2]; exact Gg1.out.alloc _
            have FO1 : Hid (Own v_5 w.heap.size (.slice s1 rl.length c1) rl) := by rw [hw2]; exact FO1.out.alloc _
            rw [← hw2, ← hbb]
            clear hbb hw2
            obtain ⟨x0_0, x0_1, x0_2, x0_3, x0_4, x0_5, x0_6, x0_7, x0_8, x0_9, x0_10, x0_11⟩ := F0.out
            have m0 := F1.out.c0
            have m1 := F1.out.c1
            refine hK.out _ _ (by (try dsimp only); first | exact ⟨x0_0, x0_1, x0_2, x0_3, x0_4, x0_5, x0_6, x0_7, x0_8, x0_9, x0_10, x0_11, m0, m1⟩ | go_keep) (fun hHeld => ?_)
            clear hK K
            try simp only [Act.put, List.getElem_toArray, List.getElem_cons_succ, List.getElem_cons_zero, List.setIfInBounds_toArray, List.set_cons_zero, List.set_cons_succ]
            refine wpAnyH_ready (rs := [10]) (by kernel_rfl) (by simp) ?_
            refine (AllReadyH.cons rfl (fun K hK => ?_) AllReadyH.nil)
            obtain ⟨z0, z1, z2, z3, z4, z5, z6, z7⟩ := FZ.out
            go_simp
            obtain ⟨v_6, hw2⟩ : ∃ v_6, v_6 = putR v_5 b1 rk ri rn (.slice s1 rl.length c1) := ⟨_, rfl⟩
            change K _ (putR v_5 b1 rk ri rn (.slice s1 rl.length c1))
            rw [← hw2]
            clear z0 z1 z2 z3 z4 z5 z6 z7
            have F0 : Hid (HAt v_6 w.heap.size a0) := by rw [hw2]; exact F0.out.below (below_putR (Below.refl _ _) (Nat.le_refl _) _ _ _ _) (by omega)
            have F1 : Hid (LW v_6 (w.heap.size + 1) a1.nx (.slice p1 a1.ps.length n1)) := by rw [hw2]; exact F1.out.below (below_putR (Below.refl _ _) (Nat.le_refl _) _ _ _ _) (by omega)
            have FB : Hid (Below w.heap.size w v_6) := by rw [hw2]; exact below_putR FB.out (by omega) _ _ _ _
            have FO1 : Hid (Own v_6 w.heap.size (.slice s1 rl.length c1) rl) := by rw [hw2]; exact FO1.out.putR (by intro k hk; first | (have := nq1 k hk; omega) | (have := nb1_oFO1 k hk; omega)) _ _ _ _
            have FZ : Hid (LR v_6 b1 rk ri rn (.slice s1 rl.length c1)) := by rw [hw2]; exact FZ.out.put _ _ _ _
            clear hw2
            obtain ⟨x0_0, x0_1, x0_2, x0_3, x0_4, x0_5, x0_6, x0_7, x0_8, x0_9, x0_10, x0_11⟩ := F0.out
            have m0 := F1.out.c0
            have m1 := F1.out.c1
            refine hK.out _ _ (by (try dsimp only); first | exact ⟨x0_0, x0_1, x0_2, x0_3, x0_4, x0_5, x0_6, x0_7, x0_8, x0_9, x0_10, x0_11, m0, m1⟩ | go_keep) (fun hHeld => ?_)
            clear hK K
            try simp only [Act.put, List.getElem_toArray, List.getElem_cons_succ, List.getElem_cons_zero, List.setIfInBounds_toArray, List.set_cons_zero, List.set_cons_succ]
            refine wpAnyH_done (by kernel_rfl) ?_ _
            go_wp2_with fail
            go_meet
            case rel => exact ⟨b1, s1, c1, rfl, F0.out, F1.out, FB.out, FZ.out, FO1.out⟩
          · go_simp
            obtain ⟨b1, hbb⟩ : ∃ b1, b1 = v_3.heap.size := ⟨_, rfl⟩
            obtain ⟨v_7, hw2⟩ : ∃ v_7, v_7 = v_3.alloc (.cells #[.int .i64 0, .int .i64 0, .int .i64 0, .slice none 0 0] 53) := ⟨_, rfl⟩
            have nb1_0 := F0.out.lt
            rw [← hbb] at nb1_0
            have nb1_1 := F1.out.lt
            rw [← hbb] at nb1_1
            have nb1_3 := Gg1.out.lt
            rw [← hbb] at nb1_3
            have FZ : Hid (RL v_7 b1) := by rw [hw2]; exact RL.at_ _ _ _ hbb
            have F0 : Hid (HAt v_7 w.heap.size a0) := by rw [hw2]; exact F0.out.alloc _
            have F1 : Hid (LW v_7 (w.heap.size + 1) a1.nx (.slice p1 a1.ps.length n1)) := by rw [hw2]; exact F1.out.alloc _
            have FB : Hid (Below w.heap.size w v_7) := by rw [hw2]; exact FB.out.alloc FB.out.size _
            have Gg1 : Hid (Ow v_7 w.heap.size g1 a1.ps.length a1.ps.length a1.ps) := by rw [hw2]; exact Gg1.out.alloc _
            rw [← hw2, ← hbb]
            clear hbb hw2
            obtain ⟨x0_0, x0_1, x0_2, x0_3, x0_4, x0_5, x0_6, x0_7, x0_8, x0_9, x0_10, x0_11⟩ := F0.out
            have m0 := F1.out.c0
            have m1 := F1.out.c1
            refine hK.out _ _ (by (try dsimp only); first | exact ⟨x0_0, x0_1, x0_2, x0_3, x0_4, x0_5, x0_6, x0_7, x0_8, x0_9, x0_10, x0_11, m0, m1⟩ | go_keep) (fun hHeld => ?_)
            clear hK K
            try simp only [Act.put, List.getElem_toArray, List.getElem_cons_succ, List.getElem_cons_zero, List.setIfInBounds_toArray, List.set_cons_zero, List.set_cons_succ]
            refine wpAnyH_ready (rs := [8]) (by kernel_rfl) (by simp) ?_
            refine (AllReadyH.cons rfl (fun K hK => ?_) AllReadyH.nil)
            go_simp
            refine (CS w.heap.size g1 _ Gg1.out).mono ?_
            rintro e v_8 ⟨s1, c1, rfl, ho, hb⟩
            first | (have nq1 : ∀ k, (Value.slice s1 rl.length c1).ownBlock = some k → b1 < k := fun k hk => Nat.lt_of_lt_of_le FZ.out.lt (ho.lt k hk).1) | skip
            have FO1 : Hid (Own v_8 w.heap.size (.slice s1 rl.length c1) rl) := ho.base FB.out.size
            have F0 : Hid (HAt v_8 w.heap.size a0) := F0.out.below hb F0.out.lt
            have F1 : Hid (LW v_8 (w.heap.size + 1) a1.nx (.slice p1 a1.ps.length n1)) := F1.out.below hb F1.out.lt
            have FB : Hid (Below w.heap.size w v_8) := FB.out.trans (hb.mono FB.out.size)
            have Gg1 : Hid (Ow v_8 w.heap.size g1 a1.ps.length a1.ps.length a1.ps) := Gg1.out.below hb Gg1.out.lt
            have FZ : Hid (RL v_8 b1) := FZ.out.below hb FZ.out.lt
            clear hb
            obtain ⟨x0_0, x0_1, x0_2, x0_3, x0_4, x0_5, x0_6, x0_7, x0_8, x0_9, x0_10, x0_11⟩ := F0.out
            have m0 := F1.out.c0
            have m1 := F1.out.c1
            clear ho
            try dsimp only
            refine hK.out _ _ (by (try dsimp only); first | exact ⟨x0_0, x0_1, x0_2, x0_3, x0_4, x0_5, x0_6, x0_7, x0_8, x0_9, x0_10, x0_11, m0, m1⟩ | go_keep) (fun hHeld => ?_)
            clear hK K
            try simp only [Act.put, List.getElem_toArray, List.getElem_cons_succ, List.getElem_cons_zero, List.setIfInBounds_toArray, List.set_cons_zero, List.set_cons_succ]
            refine wpAnyH_ready (rs := [10]) (by kernel_rfl) (by simp) ?_
            refine (AllReadyH.cons rfl (fun K hK => ?_) AllReadyH.nil)
            obtain ⟨z0, z1, z2, z3, z4, z5, z6, z7⟩ := FZ.out
            go_simp
            obtain ⟨v_9, hw2⟩ : ∃ v_9, v_9 = putR v_8 b1 rk ri rn (.slice s1 rl.length c1) := ⟨_, rfl⟩
            change K _ (putR v_8 b1 rk ri rn (.slice s1 rl.length c1))
            rw [← hw2]
            clear z0 z1 z2 z3 z4 z5 z6 z7
            have F0 : Hid (HAt v_9 w.heap.size a0) := by rw [hw2]; exact F0.out.below (below_putR (Below.refl _ _) (Nat.le_refl _) _ _ _ _) (by omega)
            have F1 : Hid (LW v_9 (w.heap.size + 1) a1.nx (.slice p1 a1.ps.length n1)) := by rw [hw2]; exact F1.out.below (below_putR (Below.refl _ _) (Nat.le_refl _) _ _ _ _) (by omega)
            have FB : Hid (Below w.heap.size w v_9) := by rw [hw2]; exact below_putR FB.out (by omega) _ _ _ _
            have FZ : Hid (LR v_9 b1 rk ri rn (.slice s1 rl.length c1)) := by rw [hw2]; exact FZ.out.put _ _ _ _
            have FO1 : Hid (Own v_9 w.heap.size (.slice s1 rl.length c1) rl) := by rw [hw2]; exact FO1.out.putR (by intro k hk; first | (have := nq1 k hk; omega) | (have := nb1_oFO1 k hk; omega)) _ _ _ _
            clear hw2
            obtain ⟨x0_0, x0_1, x0_2, x0_3, x0_4, x0_5, x0_6, x0_7, x0_8, x0_9, x0_10, x0_11⟩ := F0.out
            have m0 := F1.out.c0
            have m1 := F1.out.c1
            refine hK.out _ _ (by (try dsimp only); first | exact ⟨x0_0, x0_1, x0_2, x0_3, x0_4, x0_5, x0_6, x0_7, x0_8, x0_9, x0_10, x0_11, m0, m1⟩ | go_keep) (fun hHeld => ?_)
            clear hK K
            try simp only [Act.put, List.getElem_toArray, List.getElem_cons_succ, List.getElem_cons_zero, List.setIfInBounds_toArray, List.set_cons_zero, List.set_cons_succ]
            refine wpAnyH_done (by kernel_rfl) ?_ _
            go_wp2_with fail
            go_meet
            case rel => exact ⟨b1, s1, c1, rfl, F0.out, F1.out, FB.out, FZ.out, FO1.out⟩
        · go_simp
          obtain ⟨b1, hbb⟩ : ∃ b1, b1 = v_2.heap.size := ⟨_, rfl⟩
          obtain ⟨v_10, hw2⟩ : ∃ v_10, v_10 = v_2.alloc (.cells #[.int .i64 0, .int .i64 0, .int .i64 0, .slice none 0 0] 53) := ⟨_, rfl⟩
          have nb1_0 := F0.out.lt
          rw [← hbb] at nb1_0
          have nb1_1 := F1.out.lt
          rw [← hbb] at nb1_1
          have FZ : Hid (RL v_10 b1) := by rw [hw2]; exact RL.at_ _ _ _ hbb
          have F0 : Hid (HAt v_10 w.heap.size a0) := by rw [hw2]; exact F0.out.alloc _
          have F1 : Hid (LW v_10 (w.heap.size + 1) a1.nx (.slice p1 a1.ps.length n1)) := by rw [hw2]; exact F1.out.alloc _
          have FB : Hid (Below w.heap.size w v_10) := by rw [hw2]; exact FB.out.alloc FB.out.size _
          rw [← hw2, ← hbb]
          clear hbb hw2
          obtain ⟨x0_0, x0_1, x0_2, x0_3, x0_4, x0_5, x0_6, x0_7, x0_8, x0_9, x0_10, x0_11⟩ := F0.out
          have m0 := F1.out.c0
          have m1 := F1.out.c1
          refine hK.out _ _ (by (try dsimp only); first | exact ⟨x0_0, x0_1, x0_2, x0_3, x0_4, x0_5, x0_6, x0_7, x0_8, x0_9, x0_10, x0_11, m0, m1⟩ | go_keep) (fun hHeld => ?_)
          clear hK K
          try simp only [Act.put, List.getElem_toArray, List.getElem_cons_succ, List.getElem_cons_zero, List.setIfInBounds_toArray, List.set_cons_zero, List.set_cons_succ]
          refine wpAnyH_ready (rs := [3]) (by kernel_rfl) (by simp) ?_
          refine (AllReadyH.cons rfl (fun K hK => ?_) AllReadyH.nil)
          go_simp
          refine (toLedger_any a1.nx p1 n1 a1.ps hl _ ((HP.out.below FB.out (Nat.le_refl _)).mono FB.out.size)).mono ?_
          rintro e v_11 ⟨g1, rfl, ho, hb⟩
          have Gg1 : Hid (Ow v_11 w.heap.size g1 a1.ps.length a1.ps.length a1.ps) := ho.base FB.out.size
          have F0 : Hid (HAt v_11 w.heap.size a0) := F0.out.below hb F0.out.lt
          have F1 : Hid (LW v_11 (w.heap.size + 1) a1.nx (.slice p1 a1.ps.length n1)) := F1.out.below hb F1.out.lt
          have FB : Hid (Below w.heap.size w v_11) := FB.out.trans (hb.mono FB.out.size)
          have FZ : Hid (RL v_11 b1) := FZ.out.below hb FZ.out.lt
          clear hb
          obtain ⟨x0_0, x0_1, x0_2, x0_3, x0_4, x0_5, x0_6, x0_7, x0_8, x0_9, x0_10, x0_11⟩ := F0.out
          have m0 := F1.out.c0
          have m1 := F1.out.c1
          clear ho
          try dsimp only
          refine hK.out _ _ (by (try dsimp only); first | exact ⟨x0_0, x0_1, x0_2, x0_3, x0_4, x0_5, x0_6, x0_7, x0_8, x0_9, x0_10, x0_11, m0, m1⟩ | go_keep) (fun hHeld => ?_)
          clear hK K
          try simp only [Act.put, List.getElem_toArray, List.getElem_cons_succ, List.getElem_cons_zero, List.setIfInBounds_toArray, List.set_cons_zero, List.set_cons_succ]
          refine wpAnyH_ready (rs := [8]) (by kernel_rfl) (by simp) ?_
          refine (AllReadyH.cons rfl (fun K hK => ?_) AllReadyH.nil)
          go_simp
          refine (CS w.heap.size g1 _ Gg1.out).mono ?_
          rintro e v_12 ⟨s1, c1, rfl, ho, hb⟩
          first | (have nq1 : ∀ k, (Value.slice s1 rl.length c1).ownBlock = some k → b1 < k := fun k hk => Nat.lt_of_lt_of_le FZ.out.lt (ho.lt k hk).1) | skip
          have FO1 : Hid (Own v_12 w.heap.size (.slice s1 rl.length c1) rl) := ho.base FB.out.size
          have F0 : Hid (HAt v_12 w.heap.size a0) := F0.out.below hb F0.out.lt
          have F1 : Hid (LW v_12 (w.heap.size + 1) a1.nx (.slice p1 a1.ps.length n1)) := F1.out.below hb F1.out.lt
          have FB : Hid (Below w.heap.size w v_12) := FB.out.trans (hb.mono FB.out.size)
          have FZ : Hid (RL v_12 b1) := FZ.out.below hb FZ.out.lt
          have Gg1 : Hid (Ow v_12 w.heap.size g1 a1.ps.length a1.ps.length a1.ps) := Gg1.out.below hb Gg1.out.lt
          clear hb
          obtain ⟨x0_0, x0_1, x0_2, x0_3, x0_4, x0_5, x0_6, x0_7, x0_8, x0_9, x0_10, x0_11⟩ := F0.out
          have m0 := F1.out.c0
          have m1 := F1.out.c1
          clear ho
          try dsimp only
          refine hK.out _ _ (by (try dsimp only); first | exact ⟨x0_0, x0_1, x0_2, x0_3, x0_4, x0_5, x0_6, x0_7, x0_8, x0_9, x0_10, x0_11, m0, m1⟩ | go_keep) (fun hHeld => ?_)
          clear hK K
          try simp only [Act.put, List.getElem_toArray, List.getElem_cons_succ, List.getElem_cons_zero, List.setIfInBounds_toArray, List.set_cons_zero, List.set_cons_succ]
          refine wpAnyH_ready (rs := [10]) (by kernel_rfl) (by simp) ?_
          refine (AllReadyH.cons rfl (fun K hK => ?_) AllReadyH.nil)
          obtain ⟨z0, z1, z2, z3, z4, z5, z6, z7⟩ := FZ.out
          go_simp
          obtain ⟨v_13, hw2⟩ : ∃ v_13, v_13 = putR v_12 b1 rk ri rn (.slice s1 rl.length c1) := ⟨_, rfl⟩
          change K _ (putR v_12 b1 rk ri rn (.slice s1 rl.length c1))
          rw [← hw2]
          clear z0 z1 z2 z3 z4 z5 z6 z7
          have F0 : Hid (HAt v_13 w.heap.size a0) := by rw [hw2]; exact F0.out.below (below_putR (Below.refl _ _) (Nat.le_refl _) _ _ _ _) (by omega)
          have F1 : Hid (LW v_13 (w.heap.size + 1) a1.nx (.slice p1 a1.ps.length n1)) := by rw [hw2]; exact F1.out.below (below_putR (Below.refl _ _) (Nat.le_refl _) _ _ _ _) (by omega)
          have FB : Hid (Below w.heap.size w v_13) := by rw [hw2]; exact below_putR FB.out (by omega) _ _ _ _
          have FZ : Hid (LR v_13 b1 rk ri rn (.slice s1 rl.length c1)) := by rw [hw2]; exact FZ.out.put _ _ _ _
          have FO1 : Hid (Own v_13 w.heap.size (.slice s1 rl.length c1) rl) := by rw [hw2]; exact FO1.out.putR (by intro k hk; first | (have := nq1 k hk; omega) | (have := nb1_oFO1 k hk; omega)) _ _ _ _
          clear hw2
          obtain ⟨x0_0, x0_1, x0_2, x0_3, x0_4, x0_5, x0_6, x0_7, x0_8, x0_9, x0_10, x0_11⟩ := F0.out
          have m0 := F1.out.c0
          have m1 := F1.out.c1
          refine hK.out _ _ (by (try dsimp only); first | exact ⟨x0_0, x0_1, x0_2, x0_3, x0_4, x0_5, x0_6, x0_7, x0_8, x0_9, x0_10, x0_11, m0, m1⟩ | go_keep) (fun hHeld => ?_)
          clear hK K
          try simp only [Act.put, List.getElem_toArray, List.getElem_cons_succ, List.getElem_cons_zero, List.setIfInBounds_toArray, List.set_cons_zero, List.set_cons_succ]
          refine wpAnyH_done (by kernel_rfl) ?_ _
          go_wp2_with fail
          go_meet
          case rel => exact ⟨b1, s1, c1, rfl, F0.out, F1.out, FB.out, FZ.out, FO1.out⟩
      · go_simp
        obtain ⟨b1, hbb⟩ : ∃ b1, b1 = v_1.heap.size := ⟨_, rfl⟩
        obtain ⟨v_14, hw2⟩ : ∃ v_14, v_14 = v_1.alloc (.cells #[.int .i64 0, .int .i64 0, .int .i64 0, .slice none 0 0] 53) := ⟨_, rfl⟩
        have nb1_0 := F0.out.lt
        rw [← hbb] at nb1_0
        have nb1_1 := F1.out.lt
        rw [← hbb] at nb1_1
        have FZ : Hid (RL v_14 b1) := by rw [hw2]; exact RL.at_ _ _ _ hbb
        have F0 : Hid (HAt v_14 w.heap.size a0) := by rw [hw2]; exact F0.out.alloc _
        have F1 : Hid (LW v_14 (w.heap.size + 1) a1.nx (.slice p1 a1.ps.length n1)) := by rw [hw2]; exact F1.out.alloc _
        have FB : Hid (Below w.heap.size w v_14) := by rw [hw2]; exact FB.out.alloc FB.out.size _
        rw [← hw2, ← hbb]
        clear hbb hw2
        obtain ⟨x0_0, x0_1, x0_2, x0_3, x0_4, x0_5, x0_6, x0_7, x0_8, x0_9, x0_10, x0_11⟩ := F0.out
        have m0 := F1.out.c0
        have m1 := F1.out.c1
        refine hK.out _ _ (by (try dsimp only); first | exact ⟨x0_0, x0_1, x0_2, x0_3, x0_4, x0_5, x0_6, x0_7, x0_8, x0_9, x0_10, x0_11, m0, m1⟩ | go_keep) (fun hHeld => ?_)
        clear hK K
        try simp only [Act.put, List.getElem_toArray, List.getElem_cons_succ, List.getElem_cons_zero, List.setIfInBounds_toArray, List.set_cons_zero, List.set_cons_succ]
        refine wpAnyH_ready (rs := [1]) (by kernel_rfl) (by simp) ?_
        refine (AllReadyH.cons rfl (fun K hK => ?_) AllReadyH.nil)
        go_simp
        refine (toHouse_any a0 _).mono ?_
        rintro e v_15 ⟨rfl, hb⟩
        have F0 : Hid (HAt v_15 w.heap.size a0) := F0.out.below hb F0.out.lt
        have F1 : Hid (LW v_15 (w.heap.size + 1) a1.nx (.slice p1 a1.ps.length n1)) := F1.out.below hb F1.out.lt
        have FB : Hid (Below w.heap.size w v_15) := FB.out.trans (hb.mono FB.out.size)
        have FZ : Hid (RL v_15 b1) := FZ.out.below hb FZ.out.lt
        clear hb
        obtain ⟨x0_0, x0_1, x0_2, x0_3, x0_4, x0_5, x0_6, x0_7, x0_8, x0_9, x0_10, x0_11⟩ := F0.out
        have m0 := F1.out.c0
        have m1 := F1.out.c1
        try dsimp only
        refine hK.out _ _ (by (try dsimp only); first | exact ⟨x0_0, x0_1, x0_2, x0_3, x0_4, x0_5, x0_6, x0_7, x0_8, x0_9, x0_10, x0_11, m0, m1⟩ | go_keep) (fun hHeld => ?_)
        clear hK K
        try simp only [Act.put, List.getElem_toArray, List.getElem_cons_succ, List.getElem_cons_zero, List.setIfInBounds_toArray, List.set_cons_zero, List.set_cons_succ]
        refine wpAnyH_ready (rs := [3]) (by kernel_rfl) (by simp) ?_
        refine (AllReadyH.cons rfl (fun K hK => ?_) AllReadyH.nil)
        go_simp
        refine (toLedger_any a1.nx p1 n1 a1.ps hl _ ((HP.out.below FB.out (Nat.le_refl _)).mono FB.out.size)).mono ?_
        rintro e v_16 ⟨g1, rfl, ho, hb⟩
        have Gg1 : Hid (Ow v_16 w.heap.size g1 a1.ps.length a1.ps.length a1.ps) := ho.base FB.out.size
        have F0 : Hid (HAt v_16 w.heap.size a0) := F0.out.below hb F0.out.lt
        have F1 : Hid (LW v_16 (w.heap.size + 1) a1.nx (.slice p1 a1.ps.length n1)) := F1.out.below hb F1.out.lt
        have FB : Hid (Below w.heap.size w v_16) := FB.out.trans (hb.mono FB.out.size)
        have FZ : Hid (RL v_16 b1) := FZ.out.below hb FZ.out.lt
        clear hb
        obtain ⟨x0_0, x0_1, x0_2, x0_3, x0_4, x0_5, x0_6, x0_7, x0_8, x0_9, x0_10, x0_11⟩ := F0.out
        have m0 := F1.out.c0
        have m1 := F1.out.c1
        clear ho
        try dsimp only
        refine hK.out _ _ (by (try dsimp only); first | exact ⟨x0_0, x0_1, x0_2, x0_3, x0_4, x0_5, x0_6, x0_7, x0_8, x0_9, x0_10, x0_11, m0, m1⟩ | go_keep) (fun hHeld => ?_)
        clear hK K
        try simp only [Act.put, List.getElem_toArray, List.getElem_cons_succ, List.getElem_cons_zero, List.setIfInBounds_toArray, List.set_cons_zero, List.set_cons_succ]
        refine wpAnyH_ready (rs := [8]) (by kernel_rfl) (by simp) ?_
        refine (AllReadyH.cons rfl (fun K hK => ?_) AllReadyH.nil)
        go_simp
        refine (CS w.heap.size g1 _ Gg1.out).mono ?_
        rintro e v_17 ⟨s1, c1, rfl, ho, hb⟩
        first | (have nq1 : ∀ k, (Value.slice s1 rl.length c1).ownBlock = some k → b1 < k := fun k hk => Nat.lt_of_lt_of_le FZ.out.lt (ho.lt k hk).1) | skip
        have FO1 : Hid (Own v_17 w.heap.size (.slice s1 rl.length c1) rl) := ho.base FB.out.size
        have F0 : Hid (HAt v_17 w.heap.size a0) := F0.out.below hb F0.out.lt
        have F1 : Hid (LW v_17 (w.heap.size + 1) a1.nx (.slice p1 a1.ps.length n1)) := F1.out.below hb F1.out.lt
        have FB : Hid (Below w.heap.size w v_17) := FB.out.trans (hb.mono FB.out.size)
        have FZ : Hid (RL v_17 b1) := FZ.out.below hb FZ.out.lt
        have Gg1 : Hid (Ow v_17 w.heap.size g1 a1.ps.length a1.ps.length a1.ps) := Gg1.out.below hb Gg1.out.lt
        clear hb
        obtain ⟨x0_0, x0_1, x0_2, x0_3, x0_4, x0_5, x0_6, x0_7, x0_8, x0_9, x0_10, x0_11⟩ := F0.out
        have m0 := F1.out.c0
        have m1 := F1.out.c1
        clear ho
        try dsimp only
        refine hK.out _ _ (by (try dsimp only); first | exact ⟨x0_0, x0_1, x0_2, x0_3, x0_4, x0_5, x0_6, x0_7, x0_8, x0_9, x0_10, x0_11, m0, m1⟩ | go_keep) (fun hHeld => ?_)
        clear hK K
        try simp only [Act.put, List.getElem_toArray, List.getElem_cons_succ, List.getElem_cons_zero, List.setIfInBounds_toArray, List.set_cons_zero, List.set_cons_succ]
        refine wpAnyH_ready (rs := [10]) (by kernel_rfl) (by simp) ?_
        refine (AllReadyH.cons rfl (fun K hK => ?_) AllReadyH.nil)
        obtain ⟨z0, z1, z2, z3, z4, z5, z6, z7⟩ := FZ.out
        go_simp
        obtain ⟨v_18, hw2⟩ : ∃ v_18, v_18 = putR v_17 b1 rk ri rn (.slice s1 rl.length c1) := ⟨_, rfl⟩
        change K _ (putR v_17 b1 rk ri rn (.slice s1 rl.length c1))
        rw [← hw2]
        clear z0 z1 z2 z3 z4 z5 z6 z7
        have F0 : Hid (HAt v_18 w.heap.size a0) := by rw [hw2]; exact F0.out.below (below_putR (Below.refl _ _) (Nat.le_refl _) _ _ _ _) (by omega)
        have F1 : Hid (LW v_18 (w.heap.size + 1) a1.nx (.slice p1 a1.ps.length n1)) := by rw [hw2]; exact F1.out.below (below_putR (Below.refl _ _) (Nat.le_refl _) _ _ _ _) (by omega)
        have FB : Hid (Below w.heap.size w v_18) := by rw [hw2]; exact below_putR FB.out (by omega) _ _ _ _
        have FZ : Hid (LR v_18 b1 rk ri rn (.slice s1 rl.length c1)) := by rw [hw2]; exact FZ.out.put _ _ _ _
        have FO1 : Hid (Own v_18 w.heap.size (.slice s1 rl.length c1) rl) := by rw [hw2]; exact FO1.out.putR (by intro k hk; first | (have := nq1 k hk; omega) | (have := nb1_oFO1 k hk; omega)) _ _ _ _
        clear hw2
        obtain ⟨x0_0, x0_1, x0_2, x0_3, x0_4, x0_5, x0_6, x0_7, x0_8, x0_9, x0_10, x0_11⟩ := F0.out
        have m0 := F1.out.c0
        have m1 := F1.out.c1
        refine hK.out _ _ (by (try dsimp only); first | exact ⟨x0_0, x0_1, x0_2, x0_3, x0_4, x0_5, x0_6, x0_7, x0_8, x0_9, x0_10, x0_11, m0, m1⟩ | go_keep) (fun hHeld => ?_)
        clear hK K
        try simp only [Act.put, List.getElem_toArray, List.getElem_cons_succ, List.getElem_cons_zero, List.setIfInBounds_toArray, List.set_cons_zero, List.set_cons_succ]
        refine wpAnyH_done (by kernel_rfl) ?_ _
        go_wp2_with fail
        go_meet
        case rel => exact ⟨b1, s1, c1, rfl, F0.out, F1.out, FB.out, FZ.out, FO1.out⟩
    case rest =>
      obtain ⟨b1, s1, c1, rfl, hcut'⟩ := hcut
      obtain ⟨hF0, hF1, hFB, hFR1, hFO1⟩ := hcut'
      have F0 : Hid (HAt wc w.heap.size a0) := hF0
      have F1 : Hid (LW wc (w.heap.size + 1) a1.nx (.slice p1 a1.ps.length n1)) := hF1
      have FB : Hid (Below w.heap.size w wc) := hFB
      have FR1 : Hid (LR wc b1 rk ri rn (.slice s1 rl.length c1)) := hFR1
      have FO1 : Hid (Own wc w.heap.size (.slice s1 rl.length c1) rl) := hFO1
      clear hF0 hF1 hFB hFR1 hFO1
      obtain ⟨x0_0, x0_1, x0_2, x0_3, x0_4, x0_5, x0_6, x0_7, x0_8, x0_9, x0_10, x0_11⟩ := F0.out
      obtain ⟨m0, m1, m2, m3⟩ := F1.out
      obtain ⟨wd, hwd⟩ : ∃ wd, wd = wc := ⟨_, rfl⟩
      subst hwd
      go_upto_region 6 with fail
      go_cut [15] (fun t wx => ∃ b g2, t = .pointer (some ⟨b, 0, none⟩) ∧ LW wx b a1.nx (.slice (some ⟨g2, 0, none⟩) a1.ps.length a1.ps.length) ∧ Ow wx w.heap.size g2 a1.ps.length a1.ps.length a1.ps ∧ (w.heap.size + 1 < g2) ∧ (b1 < g2) ∧ (∀ k, (Value.slice s1 rl.length c1).ownBlock = some k → k < g2) ∧ HAt wx w.heap.size a0 ∧ LW wx (w.heap.size + 1) a1.nx (.slice p1 a1.ps.length n1) ∧ Below w.heap.size w wx ∧ LR wx b1 rk ri rn (.slice s1 rl.length c1) ∧ Own wx w.heap.size (.slice s1 rl.length c1) rl)
      case first =>
        go_wp2_with (go_at_call 22; refine (toLedger_any a1.nx p1 n1 a1.ps hl _ ((HP.out.below FB.out (Nat.le_refl _)).mono FB.out.size)).mono ?_; rintro e w3 ⟨g2, rfl, ho, hb⟩; have N1 := Nat.lt_of_lt_of_le F1.out.lt ho.bl.1; have N2 := Nat.lt_of_lt_of_le FR1.out.lt ho.bl.1; have N3 : ∀ k, (Value.slice s1 rl.length c1).ownBlock = some k → k < g2 := fun k hk => Nat.lt_of_lt_of_le (FO1.out.lt k hk).2 ho.bl.1; have Gg2 : Hid (Ow w3 w.heap.size g2 a1.ps.length a1.ps.length a1.ps) := ho.base FB.out.size; have F0 : Hid (HAt w3 w.heap.size a0) := F0.out.below hb F0.out.lt; have F1 : Hid (LW w3 (w.heap.size + 1) a1.nx (.slice p1 a1.ps.length n1)) := F1.out.below hb F1.out.lt; have FB : Hid (Below w.heap.size w w3) := FB.out.trans (hb.mono FB.out.size); have FR1 : Hid (LR w3 b1 rk ri rn (.slice s1 rl.length c1)) := FR1.out.below hb FR1.out.lt; have FO1 : Hid (Own w3 w.heap.size (.slice s1 rl.length c1) rl) := FO1.out.below hb (fun k hk => (FO1.out.lt k hk).2); clear hb ho; obtain ⟨x0_0, x0_1, x0_2, x0_3, x0_4, x0_5, x0_6, x0_7, x0_8, x0_9, x0_10, x0_11⟩ := F0.out; obtain ⟨m0, m1, m2, m3⟩ := F1.out)
        go_meet
        case rel => exact ⟨w3.heap.size, g2, rfl, LW.at_ w3 _ _ _ _ rfl, Gg2.out.alloc _, N1, N2, N3, F0.out.alloc _, F1.out.alloc _, FB.out.alloc FB.out.size _, FR1.out.alloc _, FO1.out.alloc _⟩
      case rest =>
        obtain ⟨b, g2, rfl, hcut'⟩ := hcut
        obtain ⟨hFX, hGg2, N1, N2, N3, hF0, hF1, hFB, hFR1, hFO1⟩ := hcut'
        have FX : Hid (LW wc b a1.nx (.slice (some ⟨g2, 0, none⟩) a1.ps.length a1.ps.length)) := hFX
        have Gg2 : Hid (Ow wc w.heap.size g2 a1.ps.length a1.ps.length a1.ps) := hGg2
        have F0 : Hid (HAt wc w.heap.size a0) := hF0
        have F1 : Hid (LW wc (w.heap.size + 1) a1.nx (.slice p1 a1.ps.length n1)) := hF1
        have FB : Hid (Below w.heap.size w wc) := hFB
        have FR1 : Hid (LR wc b1 rk ri rn (.slice s1 rl.length c1)) := hFR1
        have FO1 : Hid (Own wc w.heap.size (.slice s1 rl.length c1) rl) := hFO1
        clear hFX hGg2 hF0 hF1 hFB hFR1 hFO1
        obtain ⟨x0_0, x0_1, x0_2, x0_3, x0_4, x0_5, x0_6, x0_7, x0_8, x0_9, x0_10, x0_11⟩ := F0.out
        obtain ⟨m0, m1, m2, m3⟩ := F1.out
        obtain ⟨o0, o1, o2, o3⟩ := FX.out
        obtain ⟨we, hwe⟩ : ∃ we, we = wc := ⟨_, rfl⟩
        subst hwe
        go_upto_region 7 with fail
        go_cut [16] (fun t wx => ∃ b2 s2 c2, t = .pointer (some ⟨b2, 0, none⟩) ∧ (∀ k, (Value.slice s2 rl.length c2).ownBlock = some k → g2 < k) ∧ (∀ k, (Value.slice s2 rl.length c2).ownBlock = some k → k ≠ b2) ∧ g2 < b2 ∧ HAt wx w.heap.size a0 ∧ LW wx (w.heap.size + 1) a1.nx (.slice p1 a1.ps.length n1) ∧ Below w.heap.size w wx ∧ LR wx b1 rk ri rn (.slice s1 rl.length c1) ∧ Own wx w.heap.size (.slice s1 rl.length c1) rl ∧ LW wx b a1.nx (.slice (some ⟨g2, 0, none⟩) a1.ps.length a1.ps.length) ∧ Ow wx w.heap.size g2 a1.ps.length a1.ps.length a1.ps ∧ LR wx b2 rk ri rn (.slice s2 rl.length c2) ∧ Own wx w.heap.size (.slice s2 rl.length c2) rl)
        case first =>
          have F0 : Hid (HAt we.drew w.heap.size a0) := F0.out.below (Below.refl _ _).drew F0.out.lt
          have F1 : Hid (LW we.drew (w.heap.size + 1) a1.nx (.slice p1 a1.ps.length n1)) := F1.out.below (Below.refl _ _).drew F1.out.lt
          have FB : Hid (Below w.heap.size w we.drew) := FB.out.drew
          have FR1 : Hid (LR we.drew b1 rk ri rn (.slice s1 rl.length c1)) := FR1.out.below (Below.refl _ _).drew FR1.out.lt
          have FO1 : Hid (Own we.drew w.heap.size (.slice s1 rl.length c1) rl) := FO1.out.drew
          have FX : Hid (LW we.drew b a1.nx (.slice (some ⟨g2, 0, none⟩) a1.ps.length a1.ps.length)) := FX.out.below (Below.refl _ _).drew FX.out.lt
          have Gg2 : Hid (Ow we.drew w.heap.size g2 a1.ps.length a1.ps.length a1.ps) := Gg2.out.below (Below.refl _ _).drew Gg2.out.lt
          obtain ⟨x0_0, x0_1, x0_2, x0_3, x0_4, x0_5, x0_6, x0_7, x0_8, x0_9, x0_10, x0_11⟩ := F0.out
          have m0 := F1.out.c0
          have m1 := F1.out.c1
          have o0 := FX.out.c0
          have o1 := FX.out.c1
          refine wp_region_held_drew (S := (fun w'' => w''.cell? ⟨w.heap.size, 0, none⟩ = some (.int .i64 a0.fl) ∧ w''.cell? ⟨w.heap.size, 1, none⟩ = some (.int .i64 a0.gp) ∧ w''.cell? ⟨w.heap.size, 2, none⟩ = some (.int .i64 a0.ln) ∧ w''.cell? ⟨w.heap.size, 3, none⟩ = some (.int .i64 a0.rf) ∧ w''.cell? ⟨w.heap.size, 4, none⟩ = some (.int .i64 a0.sp) ∧ w''.cell? ⟨w.heap.size, 5, none⟩ = some (.int .i64 a0.pu) ∧ w''.cell? ⟨w.heap.size, 6, none⟩ = some (.int .i64 a0.br) ∧ w''.cell? ⟨w.heap.size, 7, none⟩ = some (.int .i64 a0.dr) ∧ w''.cell? ⟨w.heap.size, 8, none⟩ = some (.int .i64 a0.lv) ∧ w''.cell? ⟨w.heap.size, 9, none⟩ = some (.int .i64 a0.dO) ∧ w''.cell? ⟨w.heap.size, 10, none⟩ = some (.int .i64 a0.ld) ∧ w''.cell? ⟨w.heap.size, 11, none⟩ = some (.int .i64 a0.qu) ∧ w''.cell? ⟨w.heap.size + 1, 0, none⟩ = some (.int .i64 a1.nx) ∧ w''.cell? ⟨w.heap.size + 1, 1, none⟩ = some (.slice p1 a1.ps.length n1) ∧ w''.cell? ⟨b, 0, none⟩ = some (.int .i64 a1.nx) ∧ w''.cell? ⟨b, 1, none⟩ = some (.slice (some ⟨g2, 0, none⟩) a1.ps.length a1.ps.length))) (by kernel_rfl) (by (try dsimp only); first | exact ⟨x0_0, x0_1, x0_2, x0_3, x0_4, x0_5, x0_6, x0_7, x0_8, x0_9, x0_10, x0_11, m0, m1, o0, o1⟩ | go_keep) (fun hHeld => ?_)
          obtain ⟨v_19, hw1⟩ : ∃ v_19, v_19 = we.drew := ⟨_, rfl⟩
          have F0 : Hid (HAt v_19 w.heap.size a0) := by rw [hw1]; exact F0.out
          have F1 : Hid (LW v_19 (w.heap.size + 1) a1.nx (.slice p1 a1.ps.length n1)) := by rw [hw1]; exact F1.out
          have FB : Hid (Below w.heap.size w v_19) := by rw [hw1]; exact FB.out
          have FR1 : Hid (LR v_19 b1 rk ri rn (.slice s1 rl.length c1)) := by rw [hw1]; exact FR1.out
          have FO1 : Hid (Own v_19 w.heap.size (.slice s1 rl.length c1) rl) := by rw [hw1]; exact FO1.out
          have FX : Hid (LW v_19 b a1.nx (.slice (some ⟨g2, 0, none⟩) a1.ps.length a1.ps.length)) := by rw [hw1]; exact FX.out
          have Gg2 : Hid (Ow v_19 w.heap.size g2 a1.ps.length a1.ps.length a1.ps) := by rw [hw1]; exact Gg2.out
          rw [← hw1] at hHeld ⊢
          clear hw1
          obtain ⟨x0_0, x0_1, x0_2, x0_3, x0_4, x0_5, x0_6, x0_7, x0_8, x0_9, x0_10, x0_11⟩ := F0.out
          have m0 := F1.out.c0
          have m1 := F1.out.c1
          have o0 := FX.out.c0
          have o1 := FX.out.c1
          refine wpAnyH_take (i := 0) (v := _) rfl (by kernel_rfl) (by kernel_rfl) (by kernel_rfl) (fun _ _ _ h => h) (Or.inl ⟨by kernel_rfl, by (intro wx hSw; (try dsimp only at hSw); go_simp <;> with_reducible rfl)⟩) (by assumption) ?_
          try simp only [Act.put, List.getElem_toArray, List.getElem_cons_succ, List.getElem_cons_zero, List.setIfInBounds_toArray, List.set_cons_zero, List.set_cons_succ]
          refine wpAnyH_take (i := 2) (v := _) rfl (by kernel_rfl) (by kernel_rfl) (by kernel_rfl) (fun _ _ _ h => h) (Or.inl ⟨by kernel_rfl, by (intro wx hSw; (try dsimp only at hSw); go_simp <;> with_reducible rfl)⟩) (by assumption) ?_
          try simp only [Act.put, List.getElem_toArray, List.getElem_cons_succ, List.getElem_cons_zero, List.setIfInBounds_toArray, List.set_cons_zero, List.set_cons_succ]
          refine wpAnyH_take (i := 3) (v := _) rfl (by kernel_rfl) (by kernel_rfl) (by kernel_rfl) (fun _ _ _ h => h) (Or.inl ⟨by kernel_rfl, by (intro wx hSw; (try dsimp only at hSw); go_simp <;> with_reducible rfl)⟩) (by assumption) ?_
          try simp only [Act.put, List.getElem_toArray, List.getElem_cons_succ, List.getElem_cons_zero, List.setIfInBounds_toArray, List.set_cons_zero, List.set_cons_succ]
          refine wpAnyH_take (i := 4) (v := _) rfl (by kernel_rfl) (by kernel_rfl) (by kernel_rfl) (fun _ _ _ h => h) (Or.inl ⟨by kernel_rfl, by (intro wx hSw; (try dsimp only at hSw); go_simp <;> with_reducible rfl)⟩) (by assumption) ?_
          try simp only [Act.put, List.getElem_toArray, List.getElem_cons_succ, List.getElem_cons_zero, List.setIfInBounds_toArray, List.set_cons_zero, List.set_cons_succ]
          refine wpAnyH_take (i := 5) (v := _) rfl (by kernel_rfl) (by kernel_rfl) (by kernel_rfl) (fun _ _ _ h => h) (Or.inl ⟨by kernel_rfl, by (intro wx hSw; (try dsimp only at hSw); go_simp <;> with_reducible rfl)⟩) (by assumption) ?_
          try simp only [Act.put, List.getElem_toArray, List.getElem_cons_succ, List.getElem_cons_zero, List.setIfInBounds_toArray, List.set_cons_zero, List.set_cons_succ]
          refine wpAnyH_take (i := 6) (v := _) rfl (by kernel_rfl) (by kernel_rfl) (by kernel_rfl) (fun _ _ _ h => h) (Or.inl ⟨by kernel_rfl, by (intro wx hSw; (try dsimp only at hSw); go_simp <;> with_reducible rfl)⟩) (by assumption) ?_
          try simp only [Act.put, List.getElem_toArray, List.getElem_cons_succ, List.getElem_cons_zero, List.setIfInBounds_toArray, List.set_cons_zero, List.set_cons_succ]
          refine wpAnyH_ready (rs := [1, 8]) (by kernel_rfl) (by simp) ?_
          refine (AllReadyH.cons rfl (fun K hK => ?_) (AllReadyH.cons rfl (fun K hK => ?_) AllReadyH.nil))
          · go_simp
            refine (toHouse_any a0 _).mono ?_
            rintro e v_20 ⟨rfl, hb⟩
            have F0 : Hid (HAt v_20 w.heap.size a0) := F0.out.below hb F0.out.lt
            have F1 : Hid (LW v_20 (w.heap.size + 1) a1.nx (.slice p1 a1.ps.length n1)) := F1.out.below hb F1.out.lt
            have FB : Hid (Below w.heap.size w v_20) := FB.out.trans (hb.mono FB.out.size)
            have FR1 : Hid (LR v_20 b1 rk ri rn (.slice s1 rl.length c1)) := FR1.out.below hb FR1.out.lt
            have FO1 : Hid (Own v_20 w.heap.size (.slice s1 rl.length c1) rl) := FO1.out.below hb (fun k hk => (FO1.out.lt k hk).2)
            have FX : Hid (LW v_20 b a1.nx (.slice (some ⟨g2, 0, none⟩) a1.ps.length a1.ps.length)) := FX.out.below hb FX.out.lt
            have Gg2 : Hid (Ow v_20 w.heap.size g2 a1.ps.length a1.ps.length a1.ps) := Gg2.out.below hb Gg2.out.lt
            clear hb
            obtain ⟨x0_0, x0_1, x0_2, x0_3, x0_4, x0_5, x0_6, x0_7, x0_8, x0_9, x0_10, x0_11⟩ := F0.out
            have m0 := F1.out.c0
            have m1 := F1.out.c1
            have o0 := FX.out.c0
            have o1 := FX.out.c1
            try dsimp only
            refine hK.out _ _ (by (try dsimp only); first | exact ⟨x0_0, x0_1, x0_2, x0_3, x0_4, x0_5, x0_6, x0_7, x0_8, x0_9, x0_10, x0_11, m0, m1, o0, o1⟩ | go_keep) (fun hHeld => ?_)
            clear hK K
            try simp only [Act.put, List.getElem_toArray, List.getElem_cons_succ, List.getElem_cons_zero, List.setIfInBounds_toArray, List.set_cons_zero, List.set_cons_succ]
            refine wpAnyH_ready (rs := [7, 8]) (by kernel_rfl) (by simp) ?_
            refine (AllReadyH.cons rfl (fun K hK => ?_) (AllReadyH.cons rfl (fun K hK => ?_) AllReadyH.nil))
            · go_simp
              refine (CI w.heap.size g2 _ Gg2.out).mono ?_
              rintro e v_21 ⟨s2, c2, rfl, ho, hb⟩
              first | (have nq2 : ∀ k, (Value.slice s2 rl.length c2).ownBlock = some k → b2 < k := fun k hk => Nat.lt_of_lt_of_le FZ.out.lt (ho.lt k hk).1) | skip
              have R2 : ∀ k, (Value.slice s2 rl.length c2).ownBlock = some k → g2 < k := fun k hk => Nat.lt_of_lt_of_le Gg2.out.bl.2 (ho.lt k hk).1
              have FO2 : Hid (Own v_21 w.heap.size (.slice s2 rl.length c2) rl) := ho.base FB.out.size
              have F0 : Hid (HAt v_21 w.heap.size a0) := F0.out.below hb F0.out.lt
              have F1 : Hid (LW v_21 (w.heap.size + 1) a1.nx (.slice p1 a1.ps.length n1)) := F1.out.below hb F1.out.lt
              have FB : Hid (Below w.heap.size w v_21) := FB.out.trans (hb.mono FB.out.size)
              have FR1 : Hid (LR v_21 b1 rk ri rn (.slice s1 rl.length c1)) := FR1.out.below hb FR1.out.lt
              have FO1 : Hid (Own v_21 w.heap.size (.slice s1 rl.length c1) rl) := FO1.out.below hb (fun k hk => (FO1.out.lt k hk).2)
              have FX : Hid (LW v_21 b a1.nx (.slice (some ⟨g2, 0, none⟩) a1.ps.length a1.ps.length)) := FX.out.below hb FX.out.lt
              have Gg2 : Hid (Ow v_21 w.heap.size g2 a1.ps.length a1.ps.length a1.ps) := Gg2.out.below hb Gg2.out.lt
              clear hb
              obtain ⟨x0_0, x0_1, x0_2, x0_3, x0_4, x0_5, x0_6, x0_7, x0_8, x0_9, x0_10, x0_11⟩ := F0.out
              have m0 := F1.out.c0
              have m1 := F1.out.c1
              have o0 := FX.out.c0
              have o1 := FX.out.c1
              clear ho
              try dsimp only
              refine hK.out _ _ (by (try dsimp only); first | exact ⟨x0_0, x0_1, x0_2, x0_3, x0_4, x0_5, x0_6, x0_7, x0_8, x0_9, x0_10, x0_11, m0, m1, o0, o1⟩ | go_keep) (fun hHeld => ?_)
              clear hK K
              try simp only [Act.put, List.getElem_toArray, List.getElem_cons_succ, List.getElem_cons_zero, List.setIfInBounds_toArray, List.set_cons_zero, List.set_cons_succ]
              refine wpAnyH_ready (rs := [8]) (by kernel_rfl) (by simp) ?_
              refine (AllReadyH.cons rfl (fun K hK => ?_) AllReadyH.nil)
              go_simp
              obtain ⟨b2, hbb⟩ : ∃ b2, b2 = v_21.heap.size := ⟨_, rfl⟩
              obtain ⟨v_22, hw2⟩ : ∃ v_22, v_22 = v_21.alloc (.cells #[.int .i64 0, .int .i64 0, .int .i64 0, .slice none 0 0] 53) := ⟨_, rfl⟩
              have nb2_0 := F0.out.lt
              rw [← hbb] at nb2_0
              have nb2_1 := F1.out.lt
              rw [← hbb] at nb2_1
              have nb2_3 := FR1.out.lt
              rw [← hbb] at nb2_3
              have nb2_oFO1 := fun k hk => (FO1.out.lt k hk).2
              rw [← hbb] at nb2_oFO1
              have nb2_5 := FX.out.lt
              rw [← hbb] at nb2_5
              have nb2_6 := Gg2.out.lt
              rw [← hbb] at nb2_6
              have nb2_oFO2 := fun k hk => (FO2.out.lt k hk).2
              rw [← hbb] at nb2_oFO2
              have FZ : Hid (RL v_22 b2) := by rw [hw2]; exact RL.at_ _ _ _ hbb
              have F0 : Hid (HAt v_22 w.heap.size a0) := by rw [hw2]; exact F0.out.alloc _
              have F1 : Hid (LW v_22 (w.heap.size + 1) a1.nx (.slice p1 a1.ps.length n1)) := by rw [hw2]; exact F1.out.alloc _
              have FB : Hid (Below w.heap.size w v_22) := by rw [hw2]; exact FB.out.alloc FB.out.size _
              have FR1 : Hid (LR v_22 b1 rk ri rn (.slice s1 rl.length c1)) := by rw [hw2]; exact FR1.out.alloc _
              have FO1 : Hid (Own v_22 w.heap.size (.slice s1 rl.length c1) rl) := by rw [hw2]; exact FO1.out.alloc _
              have FX : Hid (LW v_22 b a1.nx (.slice (some ⟨g2, 0, none⟩) a1.ps.length a1.ps.length)) := by rw [hw2]; exact FX.out.alloc _
              have Gg2 : Hid (Ow v_22 w.heap.size g2 a1.ps.length a1.ps.length a1.ps) := by rw [hw2]; exact Gg2.out.alloc _
              have FO2 : Hid (Own v_22 w.heap.size (.slice s2 rl.length c2) rl) := by rw [hw2]; exact FO2.out.alloc _
              rw [← hw2, ← hbb]
              clear hbb hw2
              obtain ⟨x0_0, x0_1, x0_2, x0_3, x0_4, x0_5, x0_6, x0_7, x0_8, x0_9, x0_10, x0_11⟩ := F0.out
              have m0 := F1.out.c0
              have m1 := F1.out.c1
              have o0 := FX.out.c0
              have o1 := FX.out.c1
              refine hK.out _ _ (by (try dsimp only); first | exact ⟨x0_0, x0_1, x0_2, x0_3, x0_4, x0_5, x0_6, x0_7, x0_8, x0_9, x0_10, x0_11, m0, m1, o0, o1⟩ | go_keep) (fun hHeld => ?_)
              clear hK K
              try simp only [Act.put, List.getElem_toArray, List.getElem_cons_succ, List.getElem_cons_zero, List.setIfInBounds_toArray, List.set_cons_zero, List.set_cons_succ]
              refine wpAnyH_ready (rs := [9]) (by kernel_rfl) (by simp) ?_
              refine (AllReadyH.cons rfl (fun K hK => ?_) AllReadyH.nil)
              obtain ⟨z0, z1, z2, z3, z4, z5, z6, z7⟩ := FZ.out
              go_simp
              obtain ⟨v_23, hw2⟩ : ∃ v_23, v_23 = putR v_22 b2 rk ri rn (.slice s2 rl.length c2) := ⟨_, rfl⟩
              change K _ (putR v_22 b2 rk ri rn (.slice s2 rl.length c2))
              rw [← hw2]
              clear z0 z1 z2 z3 z4 z5 z6 z7
              have F0 : Hid (HAt v_23 w.heap.size a0) := by rw [hw2]; exact F0.out.below (below_putR (Below.refl _ _) (Nat.le_refl _) _ _ _ _) (by omega)
              have F1 : Hid (LW v_23 (w.heap.size + 1) a1.nx (.slice p1 a1.ps.length n1)) := by rw [hw2]; exact F1.out.below (below_putR (Below.refl _ _) (Nat.le_refl _) _ _ _ _) (by omega)
              have FB : Hid (Below w.heap.size w v_23) := by rw [hw2]; exact below_putR FB.out (by omega) _ _ _ _
              have FR1 : Hid (LR v_23 b1 rk ri rn (.slice s1 rl.length c1)) := by rw [hw2]; exact FR1.out.below (below_putR (Below.refl _ _) (Nat.le_refl _) _ _ _ _) (by omega)
              have FO1 : Hid (Own v_23 w.heap.size (.slice s1 rl.length c1) rl) := by rw [hw2]; exact FO1.out.putR (by intro k hk; have := nb2_oFO1 k hk; omega) _ _ _ _
              have FX : Hid (LW v_23 b a1.nx (.slice (some ⟨g2, 0, none⟩) a1.ps.length a1.ps.length)) := by rw [hw2]; exact FX.out.below (below_putR (Below.refl _ _) (Nat.le_refl _) _ _ _ _) (by omega)
              have Gg2 : Hid (Ow v_23 w.heap.size g2 a1.ps.length a1.ps.length a1.ps) := by rw [hw2]; exact Gg2.out.putR (by omega) _ _ _ _
              have FO2 : Hid (Own v_23 w.heap.size (.slice s2 rl.length c2) rl) := by rw [hw2]; exact FO2.out.putR (by intro k hk; first | (have := nq2 k hk; omega) | (have := nb2_oFO2 k hk; omega)) _ _ _ _
              have FZ : Hid (LR v_23 b2 rk ri rn (.slice s2 rl.length c2)) := by rw [hw2]; exact FZ.out.put _ _ _ _
              clear hw2
              obtain ⟨x0_0, x0_1, x0_2, x0_3, x0_4, x0_5, x0_6, x0_7, x0_8, x0_9, x0_10, x0_11⟩ := F0.out
              have m0 := F1.out.c0
              have m1 := F1.out.c1
              have o0 := FX.out.c0
              have o1 := FX.out.c1
              refine hK.out _ _ (by (try dsimp only); first | exact ⟨x0_0, x0_1, x0_2, x0_3, x0_4, x0_5, x0_6, x0_7, x0_8, x0_9, x0_10, x0_11, m0, m1, o0, o1⟩ | go_keep) (fun hHeld => ?_)
              clear hK K
              try simp only [Act.put, List.getElem_toArray, List.getElem_cons_succ, List.getElem_cons_zero, List.setIfInBounds_toArray, List.set_cons_zero, List.set_cons_succ]
              refine wpAnyH_done (by kernel_rfl) ?_ _
              go_wp2_with fail
              go_meet
              case rel => exact ⟨b2, s2, c2, rfl, R2, (by intro k hk; first | (have := nq2 k hk; omega) | (have := nb2_oFO2 k hk; omega)), (by omega), F0.out, F1.out, FB.out, FR1.out, FO1.out, FX.out, Gg2.out, FZ.out, FO2.out⟩
            · go_simp
              obtain ⟨b2, hbb⟩ : ∃ b2, b2 = v_20.heap.size := ⟨_, rfl⟩
              obtain ⟨v_24, hw2⟩ : ∃ v_24, v_24 = v_20.alloc (.cells #[.int .i64 0, .int .i64 0, .int .i64 0, .slice none 0 0] 53) := ⟨_, rfl⟩
              have nb2_0 := F0.out.lt
              rw [← hbb] at nb2_0
              have nb2_1 := F1.out.lt
              rw [← hbb] at nb2_1
              have nb2_3 := FR1.out.lt
              rw [← hbb] at nb2_3
              have nb2_oFO1 := fun k hk => (FO1.out.lt k hk).2
              rw [← hbb] at nb2_oFO1
              have nb2_5 := FX.out.lt
              rw [← hbb] at nb2_5
              have nb2_6 := Gg2.out.lt
              rw [← hbb] at nb2_6
              have FZ : Hid (RL v_24 b2) := by rw [hw2]; exact RL.at_ _ _ _ hbb
              have F0 : Hid (HAt v_24 w.heap.size a0) := by rw [hw2]; exact F0.out.alloc _
              have F1 : Hid (LW v_24 (w.heap.size + 1) a1.nx (.slice p1 a1.ps.length n1)) := by rw [hw2]; exact F1.out.alloc _
              have FB : Hid (Below w.heap.size w v_24) := by rw [hw2]; exact FB.out.alloc FB.out.size _
              have FR1 : Hid (LR v_24 b1 rk ri rn (.slice s1 rl.length c1)) := by rw [hw2]; exact FR1.out.alloc _
              have FO1 : Hid (Own v_24 w.heap.size (.slice s1 rl.length c1) rl) := by rw [hw2]; exact FO1.out.alloc _
              have FX : Hid (LW v_24 b a1.nx (.slice (some ⟨g2, 0, none⟩) a1.ps.length a1.ps.length)) := by rw [hw2]; exact FX.out.alloc _
              have Gg2 : Hid (Ow v_24 w.heap.size g2 a1.ps.length a1.ps.length a1.ps) := by rw [hw2]; exact Gg2.out.alloc _
              rw [← hw2, ← hbb]
              clear hbb hw2
              obtain ⟨x0_0, x0_1, x0_2, x0_3, x0_4, x0_5, x0_6, x0_7, x0_8, x0_9, x0_10, x0_11⟩ := F0.out
              have m0 := F1.out.c0
              have m1 := F1.out.c1
              have o0 := FX.out.c0
              have o1 := FX.out.c1
              refine hK.out _ _ (by (try dsimp only); first | exact ⟨x0_0, x0_1, x0_2, x0_3, x0_4, x0_5, x0_6, x0_7, x0_8, x0_9, x0_10, x0_11, m0, m1, o0, o1⟩ | go_keep) (fun hHeld => ?_)
              clear hK K
              try simp only [Act.put, List.getElem_toArray, List.getElem_cons_succ, List.getElem_cons_zero, List.setIfInBounds_toArray, List.set_cons_zero, List.set_cons_succ]
              refine wpAnyH_ready (rs := [7]) (by kernel_rfl) (by simp) ?_
              refine (AllReadyH.cons rfl (fun K hK => ?_) AllReadyH.nil)
              go_simp
              refine (CI w.heap.size g2 _ Gg2.out).mono ?_
              rintro e v_25 ⟨s2, c2, rfl, ho, hb⟩
              first | (have nq2 : ∀ k, (Value.slice s2 rl.length c2).ownBlock = some k → b2 < k := fun k hk => Nat.lt_of_lt_of_le FZ.out.lt (ho.lt k hk).1) | skip
              have R2 : ∀ k, (Value.slice s2 rl.length c2).ownBlock = some k → g2 < k := fun k hk => Nat.lt_of_lt_of_le Gg2.out.bl.2 (ho.lt k hk).1
              have FO2 : Hid (Own v_25 w.heap.size (.slice s2 rl.length c2) rl) := ho.base FB.out.size
              have F0 : Hid (HAt v_25 w.heap.size a0) := F0.out.below hb F0.out.lt
              have F1 : Hid (LW v_25 (w.heap.size + 1) a1.nx (.slice p1 a1.ps.length n1)) := F1.out.below hb F1.out.lt
              have FB : Hid (Below w.heap.size w v_25) := FB.out.trans (hb.mono FB.out.size)
              have FR1 : Hid (LR v_25 b1 rk ri rn (.slice s1 rl.length c1)) := FR1.out.below hb FR1.out.lt
              have FO1 : Hid (Own v_25 w.heap.size (.slice s1 rl.length c1) rl) := FO1.out.below hb (fun k hk => (FO1.out.lt k hk).2)
              have FX : Hid (LW v_25 b a1.nx (.slice (some ⟨g2, 0, none⟩) a1.ps.length a1.ps.length)) := FX.out.below hb FX.out.lt
              have Gg2 : Hid (Ow v_25 w.heap.size g2 a1.ps.length a1.ps.length a1.ps) := Gg2.out.below hb Gg2.out.lt
              have FZ : Hid (RL v_25 b2) := FZ.out.below hb FZ.out.lt
              clear hb
              obtain ⟨x0_0, x0_1, x0_2, x0_3, x0_4, x0_5, x0_6, x0_7, x0_8, x0_9, x0_10, x0_11⟩ := F0.out
              have m0 := F1.out.c0
              have m1 := F1.out.c1
              have o0 := FX.out.c0
              have o1 := FX.out.c1
              clear ho
              try dsimp only
              refine hK.out _ _ (by (try dsimp only); first | exact ⟨x0_0, x0_1, x0_2, x0_3, x0_4, x0_5, x0_6, x0_7, x0_8, x0_9, x0_10, x0_11, m0, m1, o0, o1⟩ | go_keep) (fun hHeld => ?_)
              clear hK K
              try simp only [Act.put, List.getElem_toArray, List.getElem_cons_succ, List.getElem_cons_zero, List.setIfInBounds_toArray, List.set_cons_zero, List.set_cons_succ]
              refine wpAnyH_ready (rs := [9]) (by kernel_rfl) (by simp) ?_
              refine (AllReadyH.cons rfl (fun K hK => ?_) AllReadyH.nil)
              obtain ⟨z0, z1, z2, z3, z4, z5, z6, z7⟩ := FZ.out
              go_simp
              obtain ⟨v_26, hw2⟩ : ∃ v_26, v_26 = putR v_25 b2 rk ri rn (.slice s2 rl.length c2) := ⟨_, rfl⟩
              change K _ (putR v_25 b2 rk ri rn (.slice s2 rl.length c2))
              rw [← hw2]
              clear z0 z1 z2 z3 z4 z5 z6 z7
              have F0 : Hid (HAt v_26 w.heap.size a0) := by rw [hw2]; exact F0.out.below (below_putR (Below.refl _ _) (Nat.le_refl _) _ _ _ _) (by omega)
              have F1 : Hid (LW v_26 (w.heap.size + 1) a1.nx (.slice p1 a1.ps.length n1)) := by rw [hw2]; exact F1.out.below (below_putR (Below.refl _ _) (Nat.le_refl _) _ _ _ _) (by omega)
              have FB : Hid (Below w.heap.size w v_26) := by rw [hw2]; exact below_putR FB.out (by omega) _ _ _ _
              have FR1 : Hid (LR v_26 b1 rk ri rn (.slice s1 rl.length c1)) := by rw [hw2]; exact FR1.out.below (below_putR (Below.refl _ _) (Nat.le_refl _) _ _ _ _) (by omega)
              have FO1 : Hid (Own v_26 w.heap.size (.slice s1 rl.length c1) rl) := by rw [hw2]; exact FO1.out.putR (by intro k hk; have := nb2_oFO1 k hk; omega) _ _ _ _
              have FX : Hid (LW v_26 b a1.nx (.slice (some ⟨g2, 0, none⟩) a1.ps.length a1.ps.length)) := by rw [hw2]; exact FX.out.below (below_putR (Below.refl _ _) (Nat.le_refl _) _ _ _ _) (by omega)
              have Gg2 : Hid (Ow v_26 w.heap.size g2 a1.ps.length a1.ps.length a1.ps) := by rw [hw2]; exact Gg2.out.putR (by omega) _ _ _ _
              have FZ : Hid (LR v_26 b2 rk ri rn (.slice s2 rl.length c2)) := by rw [hw2]; exact FZ.out.put _ _ _ _
              have FO2 : Hid (Own v_26 w.heap.size (.slice s2 rl.length c2) rl) := by rw [hw2]; exact FO2.out.putR (by intro k hk; first | (have := nq2 k hk; omega) | (have := nb2_oFO2 k hk; omega)) _ _ _ _
              clear hw2
              obtain ⟨x0_0, x0_1, x0_2, x0_3, x0_4, x0_5, x0_6, x0_7, x0_8, x0_9, x0_10, x0_11⟩ := F0.out
              have m0 := F1.out.c0
              have m1 := F1.out.c1
              have o0 := FX.out.c0
              have o1 := FX.out.c1
              refine hK.out _ _ (by (try dsimp only); first | exact ⟨x0_0, x0_1, x0_2, x0_3, x0_4, x0_5, x0_6, x0_7, x0_8, x0_9, x0_10, x0_11, m0, m1, o0, o1⟩ | go_keep) (fun hHeld => ?_)
              clear hK K
              try simp only [Act.put, List.getElem_toArray, List.getElem_cons_succ, List.getElem_cons_zero, List.setIfInBounds_toArray, List.set_cons_zero, List.set_cons_succ]
              refine wpAnyH_done (by kernel_rfl) ?_ _
              go_wp2_with fail
              go_meet
              case rel => exact ⟨b2, s2, c2, rfl, R2, (by intro k hk; first | (have := nq2 k hk; omega) | (have := nb2_oFO2 k hk; omega)), (by omega), F0.out, F1.out, FB.out, FR1.out, FO1.out, FX.out, Gg2.out, FZ.out, FO2.out⟩
          · go_simp
            obtain ⟨b2, hbb⟩ : ∃ b2, b2 = v_19.heap.size := ⟨_, rfl⟩
            obtain ⟨v_27, hw2⟩ : ∃ v_27, v_27 = v_19.alloc (.cells #[.int .i64 0, .int .i64 0, .int .i64 0, .slice none 0 0] 53) := ⟨_, rfl⟩
            have nb2_0 := F0.out.lt
            rw [← hbb] at nb2_0
            have nb2_1 := F1.out.lt
            rw [← hbb] at nb2_1
            have nb2_3 := FR1.out.lt
            rw [← hbb] at nb2_3
            have nb2_oFO1 := fun k hk => (FO1.out.lt k hk).2
            rw [← hbb] at nb2_oFO1
            have nb2_5 := FX.out.lt
            rw [← hbb] at nb2_5
            have nb2_6 := Gg2.out.lt
            rw [← hbb] at nb2_6
            have FZ : Hid (RL v_27 b2) := by rw [hw2]; exact RL.at_ _ _ _ hbb
            have F0 : Hid (HAt v_27 w.heap.size a0) := by rw [hw2]; exact F0.out.alloc _
            have F1 : Hid (LW v_27 (w.heap.size + 1) a1.nx (.slice p1 a1.ps.length n1)) := by rw [hw2]; exact F1.out.alloc _
            have FB : Hid (Below w.heap.size w v_27) := by rw [hw2]; exact FB.out.alloc FB.out.size _
            have FR1 : Hid (LR v_27 b1 rk ri rn (.slice s1 rl.length c1)) := by rw [hw2]; exact FR1.out.alloc _
            have FO1 : Hid (Own v_27 w.heap.size (.slice s1 rl.length c1) rl) := by rw [hw2]; exact FO1.out.alloc _
            have FX : Hid (LW v_27 b a1.nx (.slice (some ⟨g2, 0, none⟩) a1.ps.length a1.ps.length)) := by rw [hw2]; exact FX.out.alloc _
            have Gg2 : Hid (Ow v_27 w.heap.size g2 a1.ps.length a1.ps.length a1.ps) := by rw [hw2]; exact Gg2.out.alloc _
            rw [← hw2, ← hbb]
            clear hbb hw2
            obtain ⟨x0_0, x0_1, x0_2, x0_3, x0_4, x0_5, x0_6, x0_7, x0_8, x0_9, x0_10, x0_11⟩ := F0.out
            have m0 := F1.out.c0
            have m1 := F1.out.c1
            have o0 := FX.out.c0
            have o1 := FX.out.c1
            refine hK.out _ _ (by (try dsimp only); first | exact ⟨x0_0, x0_1, x0_2, x0_3, x0_4, x0_5, x0_6, x0_7, x0_8, x0_9, x0_10, x0_11, m0, m1, o0, o1⟩ | go_keep) (fun hHeld => ?_)
            clear hK K
            try simp only [Act.put, List.getElem_toArray, List.getElem_cons_succ, List.getElem_cons_zero, List.setIfInBounds_toArray, List.set_cons_zero, List.set_cons_succ]
            refine wpAnyH_ready (rs := [1]) (by kernel_rfl) (by simp) ?_
            refine (AllReadyH.cons rfl (fun K hK => ?_) AllReadyH.nil)
            go_simp
            refine (toHouse_any a0 _).mono ?_
            rintro e v_28 ⟨rfl, hb⟩
            have F0 : Hid (HAt v_28 w.heap.size a0) := F0.out.below hb F0.out.lt
            have F1 : Hid (LW v_28 (w.heap.size + 1) a1.nx (.slice p1 a1.ps.length n1)) := F1.out.below hb F1.out.lt
            have FB : Hid (Below w.heap.size w v_28) := FB.out.trans (hb.mono FB.out.size)
            have FR1 : Hid (LR v_28 b1 rk ri rn (.slice s1 rl.length c1)) := FR1.out.below hb FR1.out.lt
            have FO1 : Hid (Own v_28 w.heap.size (.slice s1 rl.length c1) rl) := FO1.out.below hb (fun k hk => (FO1.out.lt k hk).2)
            have FX : Hid (LW v_28 b a1.nx (.slice (some ⟨g2, 0, none⟩) a1.ps.length a1.ps.length)) := FX.out.below hb FX.out.lt
            have Gg2 : Hid (Ow v_28 w.heap.size g2 a1.ps.length a1.ps.length a1.ps) := Gg2.out.below hb Gg2.out.lt
            have FZ : Hid (RL v_28 b2) := FZ.out.below hb FZ.out.lt
            clear hb
            obtain ⟨x0_0, x0_1, x0_2, x0_3, x0_4, x0_5, x0_6, x0_7, x0_8, x0_9, x0_10, x0_11⟩ := F0.out
            have m0 := F1.out.c0
            have m1 := F1.out.c1
            have o0 := FX.out.c0
            have o1 := FX.out.c1
            try dsimp only
            refine hK.out _ _ (by (try dsimp only); first | exact ⟨x0_0, x0_1, x0_2, x0_3, x0_4, x0_5, x0_6, x0_7, x0_8, x0_9, x0_10, x0_11, m0, m1, o0, o1⟩ | go_keep) (fun hHeld => ?_)
            clear hK K
            try simp only [Act.put, List.getElem_toArray, List.getElem_cons_succ, List.getElem_cons_zero, List.setIfInBounds_toArray, List.set_cons_zero, List.set_cons_succ]
            refine wpAnyH_ready (rs := [7]) (by kernel_rfl) (by simp) ?_
            refine (AllReadyH.cons rfl (fun K hK => ?_) AllReadyH.nil)
            go_simp
            refine (CI w.heap.size g2 _ Gg2.out).mono ?_
            rintro e v_29 ⟨s2, c2, rfl, ho, hb⟩
            first | (have nq2 : ∀ k, (Value.slice s2 rl.length c2).ownBlock = some k → b2 < k := fun k hk => Nat.lt_of_lt_of_le FZ.out.lt (ho.lt k hk).1) | skip
            have R2 : ∀ k, (Value.slice s2 rl.length c2).ownBlock = some k → g2 < k := fun k hk => Nat.lt_of_lt_of_le Gg2.out.bl.2 (ho.lt k hk).1
            have FO2 : Hid (Own v_29 w.heap.size (.slice s2 rl.length c2) rl) := ho.base FB.out.size
            have F0 : Hid (HAt v_29 w.heap.size a0) := F0.out.below hb F0.out.lt
            have F1 : Hid (LW v_29 (w.heap.size + 1) a1.nx (.slice p1 a1.ps.length n1)) := F1.out.below hb F1.out.lt
            have FB : Hid (Below w.heap.size w v_29) := FB.out.trans (hb.mono FB.out.size)
            have FR1 : Hid (LR v_29 b1 rk ri rn (.slice s1 rl.length c1)) := FR1.out.below hb FR1.out.lt
            have FO1 : Hid (Own v_29 w.heap.size (.slice s1 rl.length c1) rl) := FO1.out.below hb (fun k hk => (FO1.out.lt k hk).2)
            have FX : Hid (LW v_29 b a1.nx (.slice (some ⟨g2, 0, none⟩) a1.ps.length a1.ps.length)) := FX.out.below hb FX.out.lt
            have Gg2 : Hid (Ow v_29 w.heap.size g2 a1.ps.length a1.ps.length a1.ps) := Gg2.out.below hb Gg2.out.lt
            have FZ : Hid (RL v_29 b2) := FZ.out.below hb FZ.out.lt
            clear hb
            obtain ⟨x0_0, x0_1, x0_2, x0_3, x0_4, x0_5, x0_6, x0_7, x0_8, x0_9, x0_10, x0_11⟩ := F0.out
            have m0 := F1.out.c0
            have m1 := F1.out.c1
            have o0 := FX.out.c0
            have o1 := FX.out.c1
            clear ho
            try dsimp only
            refine hK.out _ _ (by (try dsimp only); first | exact ⟨x0_0, x0_1, x0_2, x0_3, x0_4, x0_5, x0_6, x0_7, x0_8, x0_9, x0_10, x0_11, m0, m1, o0, o1⟩ | go_keep) (fun hHeld => ?_)
            clear hK K
            try simp only [Act.put, List.getElem_toArray, List.getElem_cons_succ, List.getElem_cons_zero, List.setIfInBounds_toArray, List.set_cons_zero, List.set_cons_succ]
            refine wpAnyH_ready (rs := [9]) (by kernel_rfl) (by simp) ?_
            refine (AllReadyH.cons rfl (fun K hK => ?_) AllReadyH.nil)
            obtain ⟨z0, z1, z2, z3, z4, z5, z6, z7⟩ := FZ.out
            go_simp
            obtain ⟨v_30, hw2⟩ : ∃ v_30, v_30 = putR v_29 b2 rk ri rn (.slice s2 rl.length c2) := ⟨_, rfl⟩
            change K _ (putR v_29 b2 rk ri rn (.slice s2 rl.length c2))
            rw [← hw2]
            clear z0 z1 z2 z3 z4 z5 z6 z7
            have F0 : Hid (HAt v_30 w.heap.size a0) := by rw [hw2]; exact F0.out.below (below_putR (Below.refl _ _) (Nat.le_refl _) _ _ _ _) (by omega)
            have F1 : Hid (LW v_30 (w.heap.size + 1) a1.nx (.slice p1 a1.ps.length n1)) := by rw [hw2]; exact F1.out.below (below_putR (Below.refl _ _) (Nat.le_refl _) _ _ _ _) (by omega)
            have FB : Hid (Below w.heap.size w v_30) := by rw [hw2]; exact below_putR FB.out (by omega) _ _ _ _
            have FR1 : Hid (LR v_30 b1 rk ri rn (.slice s1 rl.length c1)) := by rw [hw2]; exact FR1.out.below (below_putR (Below.refl _ _) (Nat.le_refl _) _ _ _ _) (by omega)
            have FO1 : Hid (Own v_30 w.heap.size (.slice s1 rl.length c1) rl) := by rw [hw2]; exact FO1.out.putR (by intro k hk; have := nb2_oFO1 k hk; omega) _ _ _ _
            have FX : Hid (LW v_30 b a1.nx (.slice (some ⟨g2, 0, none⟩) a1.ps.length a1.ps.length)) := by rw [hw2]; exact FX.out.below (below_putR (Below.refl _ _) (Nat.le_refl _) _ _ _ _) (by omega)
            have Gg2 : Hid (Ow v_30 w.heap.size g2 a1.ps.length a1.ps.length a1.ps) := by rw [hw2]; exact Gg2.out.putR (by omega) _ _ _ _
            have FZ : Hid (LR v_30 b2 rk ri rn (.slice s2 rl.length c2)) := by rw [hw2]; exact FZ.out.put _ _ _ _
            have FO2 : Hid (Own v_30 w.heap.size (.slice s2 rl.length c2) rl) := by rw [hw2]; exact FO2.out.putR (by intro k hk; first | (have := nq2 k hk; omega) | (have := nb2_oFO2 k hk; omega)) _ _ _ _
            clear hw2
            obtain ⟨x0_0, x0_1, x0_2, x0_3, x0_4, x0_5, x0_6, x0_7, x0_8, x0_9, x0_10, x0_11⟩ := F0.out
            have m0 := F1.out.c0
            have m1 := F1.out.c1
            have o0 := FX.out.c0
            have o1 := FX.out.c1
            refine hK.out _ _ (by (try dsimp only); first | exact ⟨x0_0, x0_1, x0_2, x0_3, x0_4, x0_5, x0_6, x0_7, x0_8, x0_9, x0_10, x0_11, m0, m1, o0, o1⟩ | go_keep) (fun hHeld => ?_)
            clear hK K
            try simp only [Act.put, List.getElem_toArray, List.getElem_cons_succ, List.getElem_cons_zero, List.setIfInBounds_toArray, List.set_cons_zero, List.set_cons_succ]
            refine wpAnyH_done (by kernel_rfl) ?_ _
            go_wp2_with fail
            go_meet
            case rel => exact ⟨b2, s2, c2, rfl, R2, (by intro k hk; first | (have := nq2 k hk; omega) | (have := nb2_oFO2 k hk; omega)), (by omega), F0.out, F1.out, FB.out, FR1.out, FO1.out, FX.out, Gg2.out, FZ.out, FO2.out⟩
        case rest =>
          obtain ⟨b2, s2, c2, rfl, R2, Q2, M2, hcut'⟩ := hcut
          obtain ⟨hF0, hF1, hFB, hFR1, hFO1, hFX, hGg2, hFR2, hFO2⟩ := hcut'
          have F0 : Hid (HAt wc w.heap.size a0) := hF0
          have F1 : Hid (LW wc (w.heap.size + 1) a1.nx (.slice p1 a1.ps.length n1)) := hF1
          have FB : Hid (Below w.heap.size w wc) := hFB
          have FR1 : Hid (LR wc b1 rk ri rn (.slice s1 rl.length c1)) := hFR1
          have FO1 : Hid (Own wc w.heap.size (.slice s1 rl.length c1) rl) := hFO1
          have FX : Hid (LW wc b a1.nx (.slice (some ⟨g2, 0, none⟩) a1.ps.length a1.ps.length)) := hFX
          have Gg2 : Hid (Ow wc w.heap.size g2 a1.ps.length a1.ps.length a1.ps) := hGg2
          have FR2 : Hid (LR wc b2 rk ri rn (.slice s2 rl.length c2)) := hFR2
          have FO2 : Hid (Own wc w.heap.size (.slice s2 rl.length c2) rl) := hFO2
          clear hF0 hF1 hFB hFR1 hFO1 hFX hGg2 hFR2 hFO2
          obtain ⟨x0_0, x0_1, x0_2, x0_3, x0_4, x0_5, x0_6, x0_7, x0_8, x0_9, x0_10, x0_11⟩ := F0.out
          obtain ⟨m0, m1, m2, m3⟩ := F1.out
          obtain ⟨o0, o1, o2, o3⟩ := FX.out
          obtain ⟨r1_0, r1_1, r1_2, r1_3⟩ := FR1.out
          obtain ⟨r2_0, r2_1, r2_2, r2_3⟩ := FR2.out
          have hk1 : ¬ ((1 : Int) + 7 * (a1.ps.length : Int) < 0) := by omega
          have hk2 : ¬ ((1 : Int) + 7 * (rl.length : Int) < 0) := by omega
          go_wp2_with (go_at_call 29; refine (eqLedgerResult_same rk ri rn s2 s1 c2 c1 rl hrl _ FO2.out.pinS FO1.out.pinS).mono ?_; rintro e w5 ⟨rfl, hb⟩; have F0 : Hid (HAt w5 w.heap.size a0) := F0.out.below hb F0.out.lt; have F1 : Hid (LW w5 (w.heap.size + 1) a1.nx (.slice p1 a1.ps.length n1)) := F1.out.below hb F1.out.lt; have FB : Hid (Below w.heap.size w w5) := FB.out.trans (hb.mono FB.out.size); have FR1 : Hid (LR w5 b1 rk ri rn (.slice s1 rl.length c1)) := FR1.out.below hb FR1.out.lt; have FO1 : Hid (Own w5 w.heap.size (.slice s1 rl.length c1) rl) := FO1.out.below hb (fun k hk => (FO1.out.lt k hk).2); have FX : Hid (LW w5 b a1.nx (.slice (some ⟨g2, 0, none⟩) a1.ps.length a1.ps.length)) := FX.out.below hb FX.out.lt; have Gg2 : Hid (Ow w5 w.heap.size g2 a1.ps.length a1.ps.length a1.ps) := Gg2.out.below hb Gg2.out.lt; have FR2 : Hid (LR w5 b2 rk ri rn (.slice s2 rl.length c2)) := FR2.out.below hb FR2.out.lt; have FO2 : Hid (Own w5 w.heap.size (.slice s2 rl.length c2) rl) := FO2.out.below hb (fun k hk => (FO2.out.lt k hk).2); clear hb; obtain ⟨x0_0, x0_1, x0_2, x0_3, x0_4, x0_5, x0_6, x0_7, x0_8, x0_9, x0_10, x0_11⟩ := F0.out; obtain ⟨m0, m1, m2, m3⟩ := F1.out; obtain ⟨o0, o1, o2, o3⟩ := FX.out; obtain ⟨r1_0, r1_1, r1_2, r1_3⟩ := FR1.out; obtain ⟨r2_0, r2_1, r2_2, r2_3⟩ := FR2.out)
          have F0 : Hid (HAt w5.drew w.heap.size a0) := F0.out.below (Below.refl _ _).drew F0.out.lt
          have F1 : Hid (LW w5.drew (w.heap.size + 1) a1.nx (.slice p1 a1.ps.length n1)) := F1.out.below (Below.refl _ _).drew F1.out.lt
          have FB : Hid (Below w.heap.size w w5.drew) := FB.out.drew
          have FR1 : Hid (LR w5.drew b1 rk ri rn (.slice s1 rl.length c1)) := FR1.out.below (Below.refl _ _).drew FR1.out.lt
          have FO1 : Hid (Own w5.drew w.heap.size (.slice s1 rl.length c1) rl) := FO1.out.drew
          have FX : Hid (LW w5.drew b a1.nx (.slice (some ⟨g2, 0, none⟩) a1.ps.length a1.ps.length)) := FX.out.below (Below.refl _ _).drew FX.out.lt
          have Gg2 : Hid (Ow w5.drew w.heap.size g2 a1.ps.length a1.ps.length a1.ps) := Gg2.out.below (Below.refl _ _).drew Gg2.out.lt
          have FR2 : Hid (LR w5.drew b2 rk ri rn (.slice s2 rl.length c2)) := FR2.out.below (Below.refl _ _).drew FR2.out.lt
          have FO2 : Hid (Own w5.drew w.heap.size (.slice s2 rl.length c2) rl) := FO2.out.drew
          obtain ⟨x0_0, x0_1, x0_2, x0_3, x0_4, x0_5, x0_6, x0_7, x0_8, x0_9, x0_10, x0_11⟩ := F0.out
          have m0 := F1.out.c0
          have m1 := F1.out.c1
          have o0 := FX.out.c0
          have o1 := FX.out.c1
          refine wp_region_held_drew (S := (fun w'' => w''.cell? ⟨w.heap.size, 0, none⟩ = some (.int .i64 a0.fl) ∧ w''.cell? ⟨w.heap.size, 1, none⟩ = some (.int .i64 a0.gp) ∧ w''.cell? ⟨w.heap.size, 2, none⟩ = some (.int .i64 a0.ln) ∧ w''.cell? ⟨w.heap.size, 3, none⟩ = some (.int .i64 a0.rf) ∧ w''.cell? ⟨w.heap.size, 4, none⟩ = some (.int .i64 a0.sp) ∧ w''.cell? ⟨w.heap.size, 5, none⟩ = some (.int .i64 a0.pu) ∧ w''.cell? ⟨w.heap.size, 6, none⟩ = some (.int .i64 a0.br) ∧ w''.cell? ⟨w.heap.size, 7, none⟩ = some (.int .i64 a0.dr) ∧ w''.cell? ⟨w.heap.size, 8, none⟩ = some (.int .i64 a0.lv) ∧ w''.cell? ⟨w.heap.size, 9, none⟩ = some (.int .i64 a0.dO) ∧ w''.cell? ⟨w.heap.size, 10, none⟩ = some (.int .i64 a0.ld) ∧ w''.cell? ⟨w.heap.size, 11, none⟩ = some (.int .i64 a0.qu) ∧ w''.cell? ⟨w.heap.size + 1, 0, none⟩ = some (.int .i64 a1.nx) ∧ w''.cell? ⟨w.heap.size + 1, 1, none⟩ = some (.slice p1 a1.ps.length n1) ∧ w''.cell? ⟨b, 0, none⟩ = some (.int .i64 a1.nx) ∧ w''.cell? ⟨b, 1, none⟩ = some (.slice (some ⟨g2, 0, none⟩) a1.ps.length a1.ps.length))) (by kernel_rfl) (by (try dsimp only); first | exact ⟨x0_0, x0_1, x0_2, x0_3, x0_4, x0_5, x0_6, x0_7, x0_8, x0_9, x0_10, x0_11, m0, m1, o0, o1⟩ | go_keep) (fun hHeld => ?_)
          obtain ⟨v_31, hw1⟩ : ∃ v_31, v_31 = w5.drew := ⟨_, rfl⟩
          have F0 : Hid (HAt v_31 w.heap.size a0) := by rw [hw1]; exact F0.out
          have F1 : Hid (LW v_31 (w.heap.size + 1) a1.nx (.slice p1 a1.ps.length n1)) := by rw [hw1]; exact F1.out
          have FB : Hid (Below w.heap.size w v_31) := by rw [hw1]; exact FB.out
          have FR1 : Hid (LR v_31 b1 rk ri rn (.slice s1 rl.length c1)) := by rw [hw1]; exact FR1.out
          have FO1 : Hid (Own v_31 w.heap.size (.slice s1 rl.length c1) rl) := by rw [hw1]; exact FO1.out
          have FX : Hid (LW v_31 b a1.nx (.slice (some ⟨g2, 0, none⟩) a1.ps.length a1.ps.length)) := by rw [hw1]; exact FX.out
          have Gg2 : Hid (Ow v_31 w.heap.size g2 a1.ps.length a1.ps.length a1.ps) := by rw [hw1]; exact Gg2.out
          have FR2 : Hid (LR v_31 b2 rk ri rn (.slice s2 rl.length c2)) := by rw [hw1]; exact FR2.out
          have FO2 : Hid (Own v_31 w.heap.size (.slice s2 rl.length c2) rl) := by rw [hw1]; exact FO2.out
          rw [← hw1] at hHeld ⊢
          clear hw1
          obtain ⟨x0_0, x0_1, x0_2, x0_3, x0_4, x0_5, x0_6, x0_7, x0_8, x0_9, x0_10, x0_11⟩ := F0.out
          have m0 := F1.out.c0
          have m1 := F1.out.c1
          have o0 := FX.out.c0
          have o1 := FX.out.c1
          refine wpAnyH_take (i := 0) (v := _) rfl (by kernel_rfl) (by kernel_rfl) (by kernel_rfl) (fun _ _ _ h => h) (Or.inl ⟨by kernel_rfl, by (intro wx hSw; (try dsimp only at hSw); go_simp <;> with_reducible rfl)⟩) (by assumption) ?_
          try simp only [Act.put, List.getElem_toArray, List.getElem_cons_succ, List.getElem_cons_zero, List.setIfInBounds_toArray, List.set_cons_zero, List.set_cons_succ]
          refine wpAnyH_take (i := 1) (v := _) rfl (by kernel_rfl) (by kernel_rfl) (by kernel_rfl) (fun _ _ _ h => h) (Or.inl ⟨by kernel_rfl, by (intro wx hSw; (try dsimp only at hSw); go_simp <;> with_reducible rfl)⟩) (by assumption) ?_
          try simp only [Act.put, List.getElem_toArray, List.getElem_cons_succ, List.getElem_cons_zero, List.setIfInBounds_toArray, List.set_cons_zero, List.set_cons_succ]
          refine wpAnyH_ready (rs := [2]) (by kernel_rfl) (by simp) ?_
          refine (AllReadyH.cons rfl (fun K hK => ?_) AllReadyH.nil)
          go_simp
          refine (toLedger_any a1.nx p1 n1 a1.ps hl _ ((HP.out.below FB.out (Nat.le_refl _)).mono FB.out.size)).mono ?_
          rintro e v_32 ⟨g3, rfl, ho, hb⟩
          have Gg3 : Hid (Ow v_32 w.heap.size g3 a1.ps.length a1.ps.length a1.ps) := ho.base FB.out.size
          have F0 : Hid (HAt v_32 w.heap.size a0) := F0.out.below hb F0.out.lt
          have F1 : Hid (LW v_32 (w.heap.size + 1) a1.nx (.slice p1 a1.ps.length n1)) := F1.out.below hb F1.out.lt
          have FB : Hid (Below w.heap.size w v_32) := FB.out.trans (hb.mono FB.out.size)
          have FR1 : Hid (LR v_32 b1 rk ri rn (.slice s1 rl.length c1)) := FR1.out.below hb FR1.out.lt
          have FO1 : Hid (Own v_32 w.heap.size (.slice s1 rl.length c1) rl) := FO1.out.below hb (fun k hk => (FO1.out.lt k hk).2)
          have FX : Hid (LW v_32 b a1.nx (.slice (some ⟨g2, 0, none⟩) a1.ps.length a1.ps.length)) := FX.out.below hb FX.out.lt
          have Gg2 : Hid (Ow v_32 w.heap.size g2 a1.ps.length a1.ps.length a1.ps) := Gg2.out.below hb Gg2.out.lt
          have FR2 : Hid (LR v_32 b2 rk ri rn (.slice s2 rl.length c2)) := FR2.out.below hb FR2.out.lt
          have FO2 : Hid (Own v_32 w.heap.size (.slice s2 rl.length c2) rl) := FO2.out.below hb (fun k hk => (FO2.out.lt k hk).2)
          clear hb
          obtain ⟨x0_0, x0_1, x0_2, x0_3, x0_4, x0_5, x0_6, x0_7, x0_8, x0_9, x0_10, x0_11⟩ := F0.out
          have m0 := F1.out.c0
          have m1 := F1.out.c1
          have o0 := FX.out.c0
          have o1 := FX.out.c1
          clear ho
          try dsimp only
          refine hK.out _ _ (by (try dsimp only); first | exact ⟨x0_0, x0_1, x0_2, x0_3, x0_4, x0_5, x0_6, x0_7, x0_8, x0_9, x0_10, x0_11, m0, m1, o0, o1⟩ | go_keep) (fun hHeld => ?_)
          clear hK K
          try simp only [Act.put, List.getElem_toArray, List.getElem_cons_succ, List.getElem_cons_zero, List.setIfInBounds_toArray, List.set_cons_zero, List.set_cons_succ]
          refine wpAnyH_ready (rs := [3]) (by kernel_rfl) (by simp) ?_
          refine (AllReadyH.cons rfl (fun K hK => ?_) AllReadyH.nil)
          go_simp
          refine (eqLedger_same a1.nx (some ⟨g2, 0, none⟩) (some ⟨g3, 0, none⟩) a1.ps.length a1.ps.length a1.ps hl _ (Gg2.out.pin Gg2.out.bl.2) (Gg3.out.pin Gg3.out.bl.2)).mono ?_
          rintro e v_33 ⟨rfl, hb⟩
          have F0 : Hid (HAt v_33 w.heap.size a0) := F0.out.below hb F0.out.lt
          have F1 : Hid (LW v_33 (w.heap.size + 1) a1.nx (.slice p1 a1.ps.length n1)) := F1.out.below hb F1.out.lt
          have FB : Hid (Below w.heap.size w v_33) := FB.out.trans (hb.mono FB.out.size)
          have FR1 : Hid (LR v_33 b1 rk ri rn (.slice s1 rl.length c1)) := FR1.out.below hb FR1.out.lt
          have FO1 : Hid (Own v_33 w.heap.size (.slice s1 rl.length c1) rl) := FO1.out.below hb (fun k hk => (FO1.out.lt k hk).2)
          have FX : Hid (LW v_33 b a1.nx (.slice (some ⟨g2, 0, none⟩) a1.ps.length a1.ps.length)) := FX.out.below hb FX.out.lt
          have Gg2 : Hid (Ow v_33 w.heap.size g2 a1.ps.length a1.ps.length a1.ps) := Gg2.out.below hb Gg2.out.lt
          have FR2 : Hid (LR v_33 b2 rk ri rn (.slice s2 rl.length c2)) := FR2.out.below hb FR2.out.lt
          have FO2 : Hid (Own v_33 w.heap.size (.slice s2 rl.length c2) rl) := FO2.out.below hb (fun k hk => (FO2.out.lt k hk).2)
          have Gg3 : Hid (Ow v_33 w.heap.size g3 a1.ps.length a1.ps.length a1.ps) := Gg3.out.below hb Gg3.out.lt
          clear hb
          obtain ⟨x0_0, x0_1, x0_2, x0_3, x0_4, x0_5, x0_6, x0_7, x0_8, x0_9, x0_10, x0_11⟩ := F0.out
          have m0 := F1.out.c0
          have m1 := F1.out.c1
          have o0 := FX.out.c0
          have o1 := FX.out.c1
          try dsimp only
          refine hK.out _ _ (by (try dsimp only); first | exact ⟨x0_0, x0_1, x0_2, x0_3, x0_4, x0_5, x0_6, x0_7, x0_8, x0_9, x0_10, x0_11, m0, m1, o0, o1⟩ | go_keep) (fun hHeld => ?_)
          clear hK K
          try simp only [Act.put, List.getElem_toArray, List.getElem_cons_succ, List.getElem_cons_zero, List.setIfInBounds_toArray, List.set_cons_zero, List.set_cons_succ]
          refine wpAnyH_take (i := 4) (v := _) rfl (by kernel_rfl) (by kernel_rfl) (by kernel_rfl) (fun _ _ _ h => h) (Or.inl ⟨by kernel_rfl, by (intro wx hSw; (try dsimp only at hSw); go_simp <;> with_reducible rfl)⟩) (by assumption) ?_
          try simp only [Act.put, List.getElem_toArray, List.getElem_cons_succ, List.getElem_cons_zero, List.setIfInBounds_toArray, List.set_cons_zero, List.set_cons_succ]
          refine wpAnyH_done (by kernel_rfl) ?_ _
          obtain ⟨w6, hw6⟩ : ∃ w6, w6 = v_33 := ⟨_, rfl⟩
          subst hw6
          obtain ⟨r1_0, r1_1, r1_2, r1_3⟩ := FR1.out
          obtain ⟨r2_0, r2_1, r2_2, r2_3⟩ := FR2.out
          go_wp2_with (first | (go_at_call 30; refine (markLedger_any w.heap.size a1.nx (.slice (some ⟨g2, 0, none⟩) a1.ps.length a1.ps.length) a1.ps 1 (by omega) (by omega) hl _ Gg2.out.own).mono ?_; rintro e w7 ⟨rfl, ho, ht⟩; clear ho; have F0 : Hid (HAt w7 w.heap.size a0) := F0.out.grown ht.g (ne_row (by omega)); have F1 : Hid (LW w7 (w.heap.size + 1) a1.nx (.slice p1 a1.ps.length n1)) := F1.out.grown ht.g (ne_row (by omega)); have FB : Hid (Below w.heap.size w w7) := Turn.below FB.out ht (fun j hj => by have e : g2 = j := Option.some.inj hj; omega) FB.out.size; have FR1 : Hid (LR w7 b1 rk ri rn (.slice s1 rl.length c1)) := FR1.out.grown ht.g (ne_row (by omega)); have FO1 : Hid (Own w7 w.heap.size (.slice s1 rl.length c1) rl) := FO1.out.kept ht.g (Or.inr (fun e => absurd (N3 g2 e) (by omega))); have FR2 : Hid (LR w7 b2 rk ri rn (.slice s2 rl.length c2)) := FR2.out.grown ht.g (ne_row (by omega)); have FO2 : Hid (Own w7 w.heap.size (.slice s2 rl.length c2) rl) := FO2.out.kept ht.g (Or.inr (fun e => absurd (R2 g2 e) (by omega))); clear ht; obtain ⟨x0_0, x0_1, x0_2, x0_3, x0_4, x0_5, x0_6, x0_7, x0_8, x0_9, x0_10, x0_11⟩ := F0.out; obtain ⟨m0, m1, m2, m3⟩ := F1.out; obtain ⟨r1_0, r1_1, r1_2, r1_3⟩ := FR1.out; obtain ⟨r2_0, r2_1, r2_2, r2_3⟩ := FR2.out) | (go_at_call 29; refine (eqLedgerResult_same rk ri rn s2 s1 c2 c1 rl hrl _ FO2.out.pinS FO1.out.pinS).mono ?_; rintro e w8 ⟨rfl, hb⟩; have F0 : Hid (HAt w8 w.heap.size a0) := F0.out.below hb F0.out.lt; have F1 : Hid (LW w8 (w.heap.size + 1) a1.nx (.slice p1 a1.ps.length n1)) := F1.out.below hb F1.out.lt; have FB : Hid (Below w.heap.size w w8) := FB.out.trans (hb.mono FB.out.size); have FR1 : Hid (LR w8 b1 rk ri rn (.slice s1 rl.length c1)) := FR1.out.below hb FR1.out.lt; have FO1 : Hid (Own w8 w.heap.size (.slice s1 rl.length c1) rl) := FO1.out.below hb (fun k hk => (FO1.out.lt k hk).2); have FR2 : Hid (LR w8 b2 rk ri rn (.slice s2 rl.length c2)) := FR2.out.below hb FR2.out.lt; have FO2 : Hid (Own w8 w.heap.size (.slice s2 rl.length c2) rl) := FO2.out.below hb (fun k hk => (FO2.out.lt k hk).2); clear hb; obtain ⟨x0_0, x0_1, x0_2, x0_3, x0_4, x0_5, x0_6, x0_7, x0_8, x0_9, x0_10, x0_11⟩ := F0.out; obtain ⟨m0, m1, m2, m3⟩ := F1.out; obtain ⟨r1_0, r1_1, r1_2, r1_3⟩ := FR1.out; obtain ⟨r2_0, r2_1, r2_2, r2_3⟩ := FR2.out) | (go_at_call 31; refine (markLedgerResult_any w.heap.size rk ri rn (.slice s2 rl.length c2) rl 1 (by omega) (by omega) hrl _ FO2.out).mono ?_; rintro e w9 ⟨rfl, ho, ht⟩; have F0 : Hid (HAt w9 w.heap.size a0) := F0.out.grown ht.g (fun e => absurd (R2 _ e.symm) (by omega)); have F1 : Hid (LW w9 (w.heap.size + 1) a1.nx (.slice p1 a1.ps.length n1)) := F1.out.grown ht.g (fun e => absurd (R2 _ e.symm) (by omega)); have FB : Hid (Below w.heap.size w w9) := Turn.below FB.out ht (fun j hj => by have := R2 j hj; omega) FB.out.size; have FR1 : Hid (LR w9 b1 rk ri rn (.slice s1 rl.length c1)) := FR1.out.grown ht.g (fun e => absurd (R2 _ e.symm) (by omega)); have FO1 : Hid (Own w9 w.heap.size (.slice s1 rl.length c1) rl) := FO1.out.kept ht.g (rows_ne N3 R2); have FR2 : Hid (LR w9 b2 rk ri rn (.slice s2 rl.length c2)) := FR2.out.grown ht.g (fun e => Q2 _ e.symm rfl); have FO2 : Hid (Own w9 w.heap.size (.slice s2 rl.length c2) (markL 1 rl.length)) := ho; clear ht ho; obtain ⟨x0_0, x0_1, x0_2, x0_3, x0_4, x0_5, x0_6, x0_7, x0_8, x0_9, x0_10, x0_11⟩ := F0.out; obtain ⟨m0, m1, m2, m3⟩ := F1.out; obtain ⟨r1_0, r1_1, r1_2, r1_3⟩ := FR1.out; obtain ⟨r2_0, r2_1, r2_2, r2_3⟩ := FR2.out) | (go_at_call 32; refine (heldLedgerResult_any w.heap.size rk ri rn (.slice s2 rl.length c2) rl.length 1 (by omega) (by omega) hrl _ FO2.out).mono ?_; rintro e w10 ⟨rfl, hb⟩; have F0 : Hid (HAt w10 w.heap.size a0) := F0.out.below hb F0.out.lt; have F1 : Hid (LW w10 (w.heap.size + 1) a1.nx (.slice p1 a1.ps.length n1)) := F1.out.below hb F1.out.lt; have FB : Hid (Below w.heap.size w w10) := FB.out.trans (hb.mono FB.out.size); have FR1 : Hid (LR w10 b1 rk ri rn (.slice s1 rl.length c1)) := FR1.out.below hb FR1.out.lt; have FO1 : Hid (Own w10 w.heap.size (.slice s1 rl.length c1) rl) := FO1.out.below hb (fun k hk => (FO1.out.lt k hk).2); have FR2 : Hid (LR w10 b2 rk ri rn (.slice s2 rl.length c2)) := FR2.out.below hb FR2.out.lt; have FO2 : Hid (Own w10 w.heap.size (.slice s2 rl.length c2) (markL 1 rl.length)) := FO2.out.below hb (fun k hk => (FO2.out.lt k hk).2); clear hb; obtain ⟨x0_0, x0_1, x0_2, x0_3, x0_4, x0_5, x0_6, x0_7, x0_8, x0_9, x0_10, x0_11⟩ := F0.out; obtain ⟨m0, m1, m2, m3⟩ := F1.out; obtain ⟨r1_0, r1_1, r1_2, r1_3⟩ := FR1.out; obtain ⟨r2_0, r2_1, r2_2, r2_3⟩ := FR2.out))
          go_cut [20] (fun t wx => ∃ b3 s3 c3, t = .pointer (some ⟨b3, 0, none⟩) ∧ HAt wx w.heap.size a0 ∧ LW wx (w.heap.size + 1) a1.nx (.slice p1 a1.ps.length n1) ∧ Below w.heap.size w wx ∧ LR wx b1 rk ri rn (.slice s1 rl.length c1) ∧ Own wx w.heap.size (.slice s1 rl.length c1) rl ∧ LR wx b2 rk ri rn (.slice s2 rl.length c2) ∧ Own wx w.heap.size (.slice s2 rl.length c2) (markL 1 rl.length) ∧ LR wx b3 rk ri rn (.slice s3 rl.length c3) ∧ Own wx w.heap.size (.slice s3 rl.length c3) rl)
          case first =>
            have F0 : Hid (HAt w10.drew w.heap.size a0) := F0.out.below (Below.refl _ _).drew F0.out.lt
            have F1 : Hid (LW w10.drew (w.heap.size + 1) a1.nx (.slice p1 a1.ps.length n1)) := F1.out.below (Below.refl _ _).drew F1.out.lt
            have FB : Hid (Below w.heap.size w w10.drew) := FB.out.drew
            have FR1 : Hid (LR w10.drew b1 rk ri rn (.slice s1 rl.length c1)) := FR1.out.below (Below.refl _ _).drew FR1.out.lt
            have FO1 : Hid (Own w10.drew w.heap.size (.slice s1 rl.length c1) rl) := FO1.out.drew
            have FR2 : Hid (LR w10.drew b2 rk ri rn (.slice s2 rl.length c2)) := FR2.out.below (Below.refl _ _).drew FR2.out.lt
            have FO2 : Hid (Own w10.drew w.heap.size (.slice s2 rl.length c2) (markL 1 rl.length)) := FO2.out.drew
            obtain ⟨x0_0, x0_1, x0_2, x0_3, x0_4, x0_5, x0_6, x0_7, x0_8, x0_9, x0_10, x0_11⟩ := F0.out
            have m0 := F1.out.c0
            have m1 := F1.out.c1
            refine wp_region_held_drew (S := (fun w'' => w''.cell? ⟨w.heap.size, 0, none⟩ = some (.int .i64 a0.fl) ∧ w''.cell? ⟨w.heap.size, 1, none⟩ = some (.int .i64 a0.gp) ∧ w''.cell? ⟨w.heap.size, 2, none⟩ = some (.int .i64 a0.ln) ∧ w''.cell? ⟨w.heap.size, 3, none⟩ = some (.int .i64 a0.rf) ∧ w''.cell? ⟨w.heap.size, 4, none⟩ = some (.int .i64 a0.sp) ∧ w''.cell? ⟨w.heap.size, 5, none⟩ = some (.int .i64 a0.pu) ∧ w''.cell? ⟨w.heap.size, 6, none⟩ = some (.int .i64 a0.br) ∧ w''.cell? ⟨w.heap.size, 7, none⟩ = some (.int .i64 a0.dr) ∧ w''.cell? ⟨w.heap.size, 8, none⟩ = some (.int .i64 a0.lv) ∧ w''.cell? ⟨w.heap.size, 9, none⟩ = some (.int .i64 a0.dO) ∧ w''.cell? ⟨w.heap.size, 10, none⟩ = some (.int .i64 a0.ld) ∧ w''.cell? ⟨w.heap.size, 11, none⟩ = some (.int .i64 a0.qu) ∧ w''.cell? ⟨w.heap.size + 1, 0, none⟩ = some (.int .i64 a1.nx) ∧ w''.cell? ⟨w.heap.size + 1, 1, none⟩ = some (.slice p1 a1.ps.length n1))) (by kernel_rfl) (by (try dsimp only); first | exact ⟨x0_0, x0_1, x0_2, x0_3, x0_4, x0_5, x0_6, x0_7, x0_8, x0_9, x0_10, x0_11, m0, m1⟩ | go_keep) (fun hHeld => ?_)
            obtain ⟨v_34, hw1⟩ : ∃ v_34, v_34 = w10.drew := ⟨_, rfl⟩
            have F0 : Hid (HAt v_34 w.heap.size a0) := by rw [hw1]; exact F0.out
            have F1 : Hid (LW v_34 (w.heap.size + 1) a1.nx (.slice p1 a1.ps.length n1)) := by rw [hw1]; exact F1.out
            have FB : Hid (Below w.heap.size w v_34) := by rw [hw1]; exact FB.out
            have FR1 : Hid (LR v_34 b1 rk ri rn (.slice s1 rl.length c1)) := by rw [hw1]; exact FR1.out
            have FO1 : Hid (Own v_34 w.heap.size (.slice s1 rl.length c1) rl) := by rw [hw1]; exact FO1.out
            have FR2 : Hid (LR v_34 b2 rk ri rn (.slice s2 rl.length c2)) := by rw [hw1]; exact FR2.out
            have FO2 : Hid (Own v_34 w.heap.size (.slice s2 rl.length c2) (markL 1 rl.length)) := by rw [hw1]; exact FO2.out
            rw [← hw1] at hHeld ⊢
            clear hw1
            obtain ⟨x0_0, x0_1, x0_2, x0_3, x0_4, x0_5, x0_6, x0_7, x0_8, x0_9, x0_10, x0_11⟩ := F0.out
            have m0 := F1.out.c0
            have m1 := F1.out.c1
            refine wpAnyH_take (i := 0) (v := _) rfl (by kernel_rfl) (by kernel_rfl) (by kernel_rfl) (fun _ _ _ h => h) (Or.inl ⟨by kernel_rfl, by (intro wx hSw; (try dsimp only at hSw); go_simp <;> with_reducible rfl)⟩) (by assumption) ?_
            try simp only [Act.put, List.getElem_toArray, List.getElem_cons_succ, List.getElem_cons_zero, List.setIfInBounds_toArray, List.set_cons_zero, List.set_cons_succ]
            refine wpAnyH_take (i := 2) (v := _) rfl (by kernel_rfl) (by kernel_rfl) (by kernel_rfl) (fun _ _ _ h => h) (Or.inl ⟨by kernel_rfl, by (intro wx hSw; (try dsimp only at hSw); go_simp <;> with_reducible rfl)⟩) (by assumption) ?_
            try simp only [Act.put, List.getElem_toArray, List.getElem_cons_succ, List.getElem_cons_zero, List.setIfInBounds_toArray, List.set_cons_zero, List.set_cons_succ]
            refine wpAnyH_take (i := 4) (v := _) rfl (by kernel_rfl) (by kernel_rfl) (by kernel_rfl) (fun _ _ _ h => h) (Or.inl ⟨by kernel_rfl, by (intro wx hSw; (try dsimp only at hSw); go_simp <;> with_reducible rfl)⟩) (by assumption) ?_
            try simp only [Act.put, List.getElem_toArray, List.getElem_cons_succ, List.getElem_cons_zero, List.setIfInBounds_toArray, List.set_cons_zero, List.set_cons_succ]
            refine wpAnyH_take (i := 5) (v := _) rfl (by kernel_rfl) (by kernel_rfl) (by kernel_rfl) (fun _ _ _ h => h) (Or.inl ⟨by kernel_rfl, by (intro wx hSw; (try dsimp only at hSw); go_simp <;> with_reducible rfl)⟩) (by assumption) ?_
            try simp only [Act.put, List.getElem_toArray, List.getElem_cons_succ, List.getElem_cons_zero, List.setIfInBounds_toArray, List.set_cons_zero, List.set_cons_succ]
            refine wpAnyH_take (i := 6) (v := _) rfl (by kernel_rfl) (by kernel_rfl) (by kernel_rfl) (fun _ _ _ h => h) (Or.inl ⟨by kernel_rfl, by (intro wx hSw; (try dsimp only at hSw); go_simp <;> with_reducible rfl)⟩) (by assumption) ?_
            try simp only [Act.put, List.getElem_toArray, List.getElem_cons_succ, List.getElem_cons_zero, List.setIfInBounds_toArray, List.set_cons_zero, List.set_cons_succ]
            refine wpAnyH_take (i := 7) (v := _) rfl (by kernel_rfl) (by kernel_rfl) (by kernel_rfl) (fun _ _ _ h => h) (Or.inl ⟨by kernel_rfl, by (intro wx hSw; (try dsimp only at hSw); go_simp <;> with_reducible rfl)⟩) (by assumption) ?_
            try simp only [Act.put, List.getElem_toArray, List.getElem_cons_succ, List.getElem_cons_zero, List.setIfInBounds_toArray, List.set_cons_zero, List.set_cons_succ]
            refine wpAnyH_ready (rs := [1, 9]) (by kernel_rfl) (by simp) ?_
            refine (AllReadyH.cons rfl (fun K hK => ?_) (AllReadyH.cons rfl (fun K hK => ?_) AllReadyH.nil))
            · go_simp
              refine (toHouse_any a0 _).mono ?_
              rintro e v_35 ⟨rfl, hb⟩
              have F0 : Hid (HAt v_35 w.heap.size a0) := F0.out.below hb F0.out.lt
              have F1 : Hid (LW v_35 (w.heap.size + 1) a1.nx (.slice p1 a1.ps.length n1)) := F1.out.below hb F1.out.lt
              have FB : Hid (Below w.heap.size w v_35) := FB.out.trans (hb.mono FB.out.size)
              have FR1 : Hid (LR v_35 b1 rk ri rn (.slice s1 rl.length c1)) := FR1.out.below hb FR1.out.lt
              have FO1 : Hid (Own v_35 w.heap.size (.slice s1 rl.length c1) rl) := FO1.out.below hb (fun k hk => (FO1.out.lt k hk).2)
              have FR2 : Hid (LR v_35 b2 rk ri rn (.slice s2 rl.length c2)) := FR2.out.below hb FR2.out.lt
              have FO2 : Hid (Own v_35 w.heap.size (.slice s2 rl.length c2) (markL 1 rl.length)) := FO2.out.below hb (fun k hk => (FO2.out.lt k hk).2)
              clear hb
              obtain ⟨x0_0, x0_1, x0_2, x0_3, x0_4, x0_5, x0_6, x0_7, x0_8, x0_9, x0_10, x0_11⟩ := F0.out
              have m0 := F1.out.c0
              have m1 := F1.out.c1
              try dsimp only
              refine hK.out _ _ (by (try dsimp only); first | exact ⟨x0_0, x0_1, x0_2, x0_3, x0_4, x0_5, x0_6, x0_7, x0_8, x0_9, x0_10, x0_11, m0, m1⟩ | go_keep) (fun hHeld => ?_)
              clear hK K
              try simp only [Act.put, List.getElem_toArray, List.getElem_cons_succ, List.getElem_cons_zero, List.setIfInBounds_toArray, List.set_cons_zero, List.set_cons_succ]
              refine wpAnyH_ready (rs := [3, 9]) (by kernel_rfl) (by simp) ?_
              refine (AllReadyH.cons rfl (fun K hK => ?_) (AllReadyH.cons rfl (fun K hK => ?_) AllReadyH.nil))
              · go_simp
                refine (toLedger_any a1.nx p1 n1 a1.ps hl _ ((HP.out.below FB.out (Nat.le_refl _)).mono FB.out.size)).mono ?_
                rintro e v_36 ⟨g4, rfl, ho, hb⟩
                have Gg4 : Hid (Ow v_36 w.heap.size g4 a1.ps.length a1.ps.length a1.ps) := ho.base FB.out.size
                have F0 : Hid (HAt v_36 w.heap.size a0) := F0.out.below hb F0.out.lt
                have F1 : Hid (LW v_36 (w.heap.size + 1) a1.nx (.slice p1 a1.ps.length n1)) := F1.out.below hb F1.out.lt
                have FB : Hid (Below w.heap.size w v_36) := FB.out.trans (hb.mono FB.out.size)
                have FR1 : Hid (LR v_36 b1 rk ri rn (.slice s1 rl.length c1)) := FR1.out.below hb FR1.out.lt
                have FO1 : Hid (Own v_36 w.heap.size (.slice s1 rl.length c1) rl) := FO1.out.below hb (fun k hk => (FO1.out.lt k hk).2)
                have FR2 : Hid (LR v_36 b2 rk ri rn (.slice s2 rl.length c2)) := FR2.out.below hb FR2.out.lt
                have FO2 : Hid (Own v_36 w.heap.size (.slice s2 rl.length c2) (markL 1 rl.length)) := FO2.out.below hb (fun k hk => (FO2.out.lt k hk).2)
                clear hb
                obtain ⟨x0_0, x0_1, x0_2, x0_3, x0_4, x0_5, x0_6, x0_7, x0_8, x0_9, x0_10, x0_11⟩ := F0.out
                have m0 := F1.out.c0
                have m1 := F1.out.c1
                clear ho
                try dsimp only
                refine hK.out _ _ (by (try dsimp only); first | exact ⟨x0_0, x0_1, x0_2, x0_3, x0_4, x0_5, x0_6, x0_7, x0_8, x0_9, x0_10, x0_11, m0, m1⟩ | go_keep) (fun hHeld => ?_)
                clear hK K
                try simp only [Act.put, List.getElem_toArray, List.getElem_cons_succ, List.getElem_cons_zero, List.setIfInBounds_toArray, List.set_cons_zero, List.set_cons_succ]
                refine wpAnyH_ready (rs := [8, 9]) (by kernel_rfl) (by simp) ?_
                refine (AllReadyH.cons rfl (fun K hK => ?_) (AllReadyH.cons rfl (fun K hK => ?_) AllReadyH.nil))
                · go_simp
                  refine (CI w.heap.size g4 _ Gg4.out).mono ?_
                  rintro e v_37 ⟨s3, c3, rfl, ho, hb⟩
                  first | (have nq3 : ∀ k, (Value.slice s3 rl.length c3).ownBlock = some k → b3 < k := fun k hk => Nat.lt_of_lt_of_le FZ.out.lt (ho.lt k hk).1) | skip
                  have FO3 : Hid (Own v_37 w.heap.size (.slice s3 rl.length c3) rl) := ho.base FB.out.size
                  have F0 : Hid (HAt v_37 w.heap.size a0) := F0.out.below hb F0.out.lt
                  have F1 : Hid (LW v_37 (w.heap.size + 1) a1.nx (.slice p1 a1.ps.length n1)) := F1.out.below hb F1.out.lt
                  have FB : Hid (Below w.heap.size w v_37) := FB.out.trans (hb.mono FB.out.size)
                  have FR1 : Hid (LR v_37 b1 rk ri rn (.slice s1 rl.length c1)) := FR1.out.below hb FR1.out.lt
                  have FO1 : Hid (Own v_37 w.heap.size (.slice s1 rl.length c1) rl) := FO1.out.below hb (fun k hk => (FO1.out.lt k hk).2)
                  have FR2 : Hid (LR v_37 b2 rk ri rn (.slice s2 rl.length c2)) := FR2.out.below hb FR2.out.lt
                  have FO2 : Hid (Own v_37 w.heap.size (.slice s2 rl.length c2) (markL 1 rl.length)) := FO2.out.below hb (fun k hk => (FO2.out.lt k hk).2)
                  have Gg4 : Hid (Ow v_37 w.heap.size g4 a1.ps.length a1.ps.length a1.ps) := Gg4.out.below hb Gg4.out.lt
                  clear hb
                  obtain ⟨x0_0, x0_1, x0_2, x0_3, x0_4, x0_5, x0_6, x0_7, x0_8, x0_9, x0_10, x0_11⟩ := F0.out
                  have m0 := F1.out.c0
                  have m1 := F1.out.c1
                  clear ho
                  try dsimp only
                  refine hK.out _ _ (by (try dsimp only); first | exact ⟨x0_0, x0_1, x0_2, x0_3, x0_4, x0_5, x0_6, x0_7, x0_8, x0_9, x0_10, x0_11, m0, m1⟩ | go_keep) (fun hHeld => ?_)
                  clear hK K
                  try simp only [Act.put, List.getElem_toArray, List.getElem_cons_succ, List.getElem_cons_zero, List.setIfInBounds_toArray, List.set_cons_zero, List.set_cons_succ]
                  refine wpAnyH_ready (rs := [9]) (by kernel_rfl) (by simp) ?_
                  refine (AllReadyH.cons rfl (fun K hK => ?_) AllReadyH.nil)
                  go_simp
                  obtain ⟨b3, hbb⟩ : ∃ b3, b3 = v_37.heap.size := ⟨_, rfl⟩
                  obtain ⟨v_38, hw2⟩ : ∃ v_38, v_38 = v_37.alloc (.cells #[.int .i64 0, .int .i64 0, .int .i64 0, .slice none 0 0] 53) := ⟨_, rfl⟩
                  have nb3_0 := F0.out.lt
                  rw [← hbb] at nb3_0
                  have nb3_1 := F1.out.lt
                  rw [← hbb] at nb3_1
                  have nb3_3 := FR1.out.lt
                  rw [← hbb] at nb3_3
                  have nb3_oFO1 := fun k hk => (FO1.out.lt k hk).2
                  rw [← hbb] at nb3_oFO1
                  have nb3_5 := FR2.out.lt
                  rw [← hbb] at nb3_5
                  have nb3_oFO2 := fun k hk => (FO2.out.lt k hk).2
                  rw [← hbb] at nb3_oFO2
                  have nb3_7 := Gg4.out.lt
                  rw [← hbb] at nb3_7
                  have nb3_oFO3 := fun k hk => (FO3.out.lt k hk).2
                  rw [← hbb] at nb3_oFO3
                  have FZ : Hid (RL v_38 b3) := by rw [hw2]; exact RL.at_ _ _ _ hbb
                  have F0 : Hid (HAt v_38 w.heap.size a0) := by rw [hw2]; exact F0.out.alloc _
                  have F1 : Hid (LW v_38 (w.heap.size + 1) a1.nx (.slice p1 a1.ps.length n1)) := by rw [hw2]; exact F1.out.alloc _
                  have FB : Hid (Below w.heap.size w v_38) := by rw [hw2]; exact FB.out.alloc FB.out.size _
                  have FR1 : Hid (LR v_38 b1 rk ri rn (.slice s1 rl.length c1)) := by rw [hw2]; exact FR1.out.alloc _
                  have FO1 : Hid (Own v_38 w.heap.size (.slice s1 rl.length c1) rl) := by rw [hw2]; exact FO1.out.alloc _
                  have FR2 : Hid (LR v_38 b2 rk ri rn (.slice s2 rl.length c2)) := by rw [hw2]; exact FR2.out.alloc _
                  have FO2 : Hid (Own v_38 w.heap.size (.slice s2 rl.length c2) (markL 1 rl.length)) := by rw [hw2]; exact FO2.out.alloc _
                  have Gg4 : Hid (Ow v_38 w.heap.size g4 a1.ps.length a1.ps.length a1.ps) := by rw [hw2]; exact Gg4.out.alloc _
                  have FO3 : Hid (Own v_38 w.heap.size (.slice s3 rl.length c3) rl) := by rw [hw2]; exact FO3.out.alloc _
                  rw [← hw2, ← hbb]
                  clear hbb hw2
                  obtain ⟨x0_0, x0_1, x0_2, x0_3, x0_4, x0_5, x0_6, x0_7, x0_8, x0_9, x0_10, x0_11⟩ := F0.out
                  have m0 := F1.out.c0
                  have m1 := F1.out.c1
                  refine hK.out _ _ (by (try dsimp only); first | exact ⟨x0_0, x0_1, x0_2, x0_3, x0_4, x0_5, x0_6, x0_7, x0_8, x0_9, x0_10, x0_11, m0, m1⟩ | go_keep) (fun hHeld => ?_)
                  clear hK K
                  try simp only [Act.put, List.getElem_toArray, List.getElem_cons_succ, List.getElem_cons_zero, List.setIfInBounds_toArray, List.set_cons_zero, List.set_cons_succ]
                  refine wpAnyH_ready (rs := [10]) (by kernel_rfl) (by simp) ?_
                  refine (AllReadyH.cons rfl (fun K hK => ?_) AllReadyH.nil)
                  obtain ⟨z0, z1, z2, z3, z4, z5, z6, z7⟩ := FZ.out
                  go_simp
                  obtain ⟨v_39, hw2⟩ : ∃ v_39, v_39 = putR v_38 b3 rk ri rn (.slice s3 rl.length c3) := ⟨_, rfl⟩
                  change K _ (putR v_38 b3 rk ri rn (.slice s3 rl.length c3))
                  rw [← hw2]
                  clear z0 z1 z2 z3 z4 z5 z6 z7
                  have F0 : Hid (HAt v_39 w.heap.size a0) := by rw [hw2]; exact F0.out.below (below_putR (Below.refl _ _) (Nat.le_refl _) _ _ _ _) (by omega)
                  have F1 : Hid (LW v_39 (w.heap.size + 1) a1.nx (.slice p1 a1.ps.length n1)) := by rw [hw2]; exact F1.out.below (below_putR (Below.refl _ _) (Nat.le_refl _) _ _ _ _) (by omega)
                  have FB : Hid (Below w.heap.size w v_39) := by rw [hw2]; exact below_putR FB.out (by omega) _ _ _ _
                  have FR1 : Hid (LR v_39 b1 rk ri rn (.slice s1 rl.length c1)) := by rw [hw2]; exact FR1.out.below (below_putR (Below.refl _ _) (Nat.le_refl _) _ _ _ _) (by omega)
                  have FO1 : Hid (Own v_39 w.heap.size (.slice s1 rl.length c1) rl) := by rw [hw2]; exact FO1.out.putR (by intro k hk; have := nb3_oFO1 k hk; omega) _ _ _ _
                  have FR2 : Hid (LR v_39 b2 rk ri rn (.slice s2 rl.length c2)) := by rw [hw2]; exact FR2.out.below (below_putR (Below.refl _ _) (Nat.le_refl _) _ _ _ _) (by omega)
                  have FO2 : Hid (Own v_39 w.heap.size (.slice s2 rl.length c2) (markL 1 rl.length)) := by rw [hw2]; exact FO2.out.putR (by intro k hk; have := nb3_oFO2 k hk; omega) _ _ _ _
                  have FO3 : Hid (Own v_39 w.heap.size (.slice s3 rl.length c3) rl) := by rw [hw2]; exact FO3.out.putR (by intro k hk; first | (have := nq3 k hk; omega) | (have := nb3_oFO3 k hk; omega)) _ _ _ _
                  have FZ : Hid (LR v_39 b3 rk ri rn (.slice s3 rl.length c3)) := by rw [hw2]; exact FZ.out.put _ _ _ _
                  clear hw2
                  obtain ⟨x0_0, x0_1, x0_2, x0_3, x0_4, x0_5, x0_6, x0_7, x0_8, x0_9, x0_10, x0_11⟩ := F0.out
                  have m0 := F1.out.c0
                  have m1 := F1.out.c1
                  refine hK.out _ _ (by (try dsimp only); first | exact ⟨x0_0, x0_1, x0_2, x0_3, x0_4, x0_5, x0_6, x0_7, x0_8, x0_9, x0_10, x0_11, m0, m1⟩ | go_keep) (fun hHeld => ?_)
                  clear hK K
                  try simp only [Act.put, List.getElem_toArray, List.getElem_cons_succ, List.getElem_cons_zero, List.setIfInBounds_toArray, List.set_cons_zero, List.set_cons_succ]
                  refine wpAnyH_done (by kernel_rfl) ?_ _
                  go_wp2_with fail
                  go_meet
                  case rel => exact ⟨b3, s3, c3, rfl, F0.out, F1.out, FB.out, FR1.out, FO1.out, FR2.out, FO2.out, FZ.out, FO3.out⟩
                · go_simp
                  obtain ⟨b3, hbb⟩ : ∃ b3, b3 = v_36.heap.size := ⟨_, rfl⟩
                  obtain ⟨v_40, hw2⟩ : ∃ v_40, v_40 = v_36.alloc (.cells #[.int .i64 0, .int .i64 0, .int .i64 0, .slice none 0 0] 53) := ⟨_, rfl⟩
                  have nb3_0 := F0.out.lt
                  rw [← hbb] at nb3_0
                  have nb3_1 := F1.out.lt
                  rw [← hbb] at nb3_1
                  have nb3_3 := FR1.out.lt
                  rw [← hbb] at nb3_3
                  have nb3_oFO1 := fun k hk => (FO1.out.lt k hk).2
                  rw [← hbb] at nb3_oFO1
                  have nb3_5 := FR2.out.lt
                  rw [← hbb] at nb3_5
                  have nb3_oFO2 := fun k hk => (FO2.out.lt k hk).2
                  rw [← hbb] at nb3_oFO2
                  have nb3_7 := Gg4.out.lt
                  rw [← hbb] at nb3_7
                  have FZ : Hid (RL v_40 b3) := by rw [hw2]; exact RL.at_ _ _ _ hbb
                  have F0 : Hid (HAt v_40 w.heap.size a0) := by rw [hw2]; exact F0.out.alloc _
                  have F1 : Hid (LW v_40 (w.heap.size + 1) a1.nx (.slice p1 a1.ps.length n1)) := by rw [hw2]; exact F1.out.alloc _
                  have FB : Hid (Below w.heap.size w v_40) := by rw [hw2]; exact FB.out.alloc FB.out.size _
                  have FR1 : Hid (LR v_40 b1 rk ri rn (.slice s1 rl.length c1)) := by rw [hw2]; exact FR1.out.alloc _
                  have FO1 : Hid (Own v_40 w.heap.size (.slice s1 rl.length c1) rl) := by rw [hw2]; exact FO1.out.alloc _
                  have FR2 : Hid (LR v_40 b2 rk ri rn (.slice s2 rl.length c2)) := by rw [hw2]; exact FR2.out.alloc _
                  have FO2 : Hid (Own v_40 w.heap.size (.slice s2 rl.length c2) (markL 1 rl.length)) := by rw [hw2]; exact FO2.out.alloc _
                  have Gg4 : Hid (Ow v_40 w.heap.size g4 a1.ps.length a1.ps.length a1.ps) := by rw [hw2]; exact Gg4.out.alloc _
                  rw [← hw2, ← hbb]
                  clear hbb hw2
                  obtain ⟨x0_0, x0_1, x0_2, x0_3, x0_4, x0_5, x0_6, x0_7, x0_8, x0_9, x0_10, x0_11⟩ := F0.out
                  have m0 := F1.out.c0
                  have m1 := F1.out.c1
                  refine hK.out _ _ (by (try dsimp only); first | exact ⟨x0_0, x0_1, x0_2, x0_3, x0_4, x0_5, x0_6, x0_7, x0_8, x0_9, x0_10, x0_11, m0, m1⟩ | go_keep) (fun hHeld => ?_)
                  clear hK K
                  try simp only [Act.put, List.getElem_toArray, List.getElem_cons_succ, List.getElem_cons_zero, List.setIfInBounds_toArray, List.set_cons_zero, List.set_cons_succ]
                  refine wpAnyH_ready (rs := [8]) (by kernel_rfl) (by simp) ?_
                  refine (AllReadyH.cons rfl (fun K hK => ?_) AllReadyH.nil)
                  go_simp
                  refine (CI w.heap.size g4 _ Gg4.out).mono ?_
                  rintro e v_41 ⟨s3, c3, rfl, ho, hb⟩
                  first | (have nq3 : ∀ k, (Value.slice s3 rl.length c3).ownBlock = some k → b3 < k := fun k hk => Nat.lt_of_lt_of_le FZ.out.lt (ho.lt k hk).1) | skip
                  have FO3 : Hid (Own v_41 w.heap.size (.slice s3 rl.length c3) rl) := ho.base FB.out.size
                  have F0 : Hid (HAt v_41 w.heap.size a0) := F0.out.below hb F0.out.lt
                  have F1 : Hid (LW v_41 (w.heap.size + 1) a1.nx (.slice p1 a1.ps.length n1)) := F1.out.below hb F1.out.lt
                  have FB : Hid (Below w.heap.size w v_41) := FB.out.trans (hb.mono FB.out.size)
                  have FR1 : Hid (LR v_41 b1 rk ri rn (.slice s1 rl.length c1)) := FR1.out.below hb FR1.out.lt
                  have FO1 : Hid (Own v_41 w.heap.size (.slice s1 rl.length c1) rl) := FO1.out.below hb (fun k hk => (FO1.out.lt k hk).2)
                  have FR2 : Hid (LR v_41 b2 rk ri rn (.slice s2 rl.length c2)) := FR2.out.below hb FR2.out.lt
                  have FO2 : Hid (Own v_41 w.heap.size (.slice s2 rl.length c2) (markL 1 rl.length)) := FO2.out.below hb (fun k hk => (FO2.out.lt k hk).2)
                  have Gg4 : Hid (Ow v_41 w.heap.size g4 a1.ps.length a1.ps.length a1.ps) := Gg4.out.below hb Gg4.out.lt
                  have FZ : Hid (RL v_41 b3) := FZ.out.below hb FZ.out.lt
                  clear hb
                  obtain ⟨x0_0, x0_1, x0_2, x0_3, x0_4, x0_5, x0_6, x0_7, x0_8, x0_9, x0_10, x0_11⟩ := F0.out
                  have m0 := F1.out.c0
                  have m1 := F1.out.c1
                  clear ho
                  try dsimp only
                  refine hK.out _ _ (by (try dsimp only); first | exact ⟨x0_0, x0_1, x0_2, x0_3, x0_4, x0_5, x0_6, x0_7, x0_8, x0_9, x0_10, x0_11, m0, m1⟩ | go_keep) (fun hHeld => ?_)
                  clear hK K
                  try simp only [Act.put, List.getElem_toArray, List.getElem_cons_succ, List.getElem_cons_zero, List.setIfInBounds_toArray, List.set_cons_zero, List.set_cons_succ]
                  refine wpAnyH_ready (rs := [10]) (by kernel_rfl) (by simp) ?_
                  refine (AllReadyH.cons rfl (fun K hK => ?_) AllReadyH.nil)
                  obtain ⟨z0, z1, z2, z3, z4, z5, z6, z7⟩ := FZ.out
                  go_simp
                  obtain ⟨v_42, hw2⟩ : ∃ v_42, v_42 = putR v_41 b3 rk ri rn (.slice s3 rl.length c3) := ⟨_, rfl⟩
                  change K _ (putR v_41 b3 rk ri rn (.slice s3 rl.length c3))
                  rw [← hw2]
                  clear z0 z1 z2 z3 z4 z5 z6 z7
                  have F0 : Hid (HAt v_42 w.heap.size a0) := by rw [hw2]; exact F0.out.below (below_putR (Below.refl _ _) (Nat.le_refl _) _ _ _ _) (by omega)
                  have F1 : Hid (LW v_42 (w.heap.size + 1) a1.nx (.slice p1 a1.ps.length n1)) := by rw [hw2]; exact F1.out.below (below_putR (Below.refl _ _) (Nat.le_refl _) _ _ _ _) (by omega)
                  have FB : Hid (Below w.heap.size w v_42) := by rw [hw2]; exact below_putR FB.out (by omega) _ _ _ _
                  have FR1 : Hid (LR v_42 b1 rk ri rn (.slice s1 rl.length c1)) := by rw [hw2]; exact FR1.out.below (below_putR (Below.refl _ _) (Nat.le_refl _) _ _ _ _) (by omega)
                  have FO1 : Hid (Own v_42 w.heap.size (.slice s1 rl.length c1) rl) := by rw [hw2]; exact FO1.out.putR (by intro k hk; have := nb3_oFO1 k hk; omega) _ _ _ _
                  have FR2 : Hid (LR v_42 b2 rk ri rn (.slice s2 rl.length c2)) := by rw [hw2]; exact FR2.out.below (below_putR (Below.refl _ _) (Nat.le_refl _) _ _ _ _) (by omega)
                  have FO2 : Hid (Own v_42 w.heap.size (.slice s2 rl.length c2) (markL 1 rl.length)) := by rw [hw2]; exact FO2.out.putR (by intro k hk; have := nb3_oFO2 k hk; omega) _ _ _ _
                  have FZ : Hid (LR v_42 b3 rk ri rn (.slice s3 rl.length c3)) := by rw [hw2]; exact FZ.out.put _ _ _ _
                  have FO3 : Hid (Own v_42 w.heap.size (.slice s3 rl.length c3) rl) := by rw [hw2]; exact FO3.out.putR (by intro k hk; first | (have := nq3 k hk; omega) | (have := nb3_oFO3 k hk; omega)) _ _ _ _
                  clear hw2
                  obtain ⟨x0_0, x0_1, x0_2, x0_3, x0_4, x0_5, x0_6, x0_7, x0_8, x0_9, x0_10, x0_11⟩ := F0.out
                  have m0 := F1.out.c0
                  have m1 := F1.out.c1
                  refine hK.out _ _ (by (try dsimp only); first | exact ⟨x0_0, x0_1, x0_2, x0_3, x0_4, x0_5, x0_6, x0_7, x0_8, x0_9, x0_10, x0_11, m0, m1⟩ | go_keep) (fun hHeld => ?_)
                  clear hK K
                  try simp only [Act.put, List.getElem_toArray, List.getElem_cons_succ, List.getElem_cons_zero, List.setIfInBounds_toArray, List.set_cons_zero, List.set_cons_succ]
                  refine wpAnyH_done (by kernel_rfl) ?_ _
                  go_wp2_with fail
                  go_meet
                  case rel => exact ⟨b3, s3, c3, rfl, F0.out, F1.out, FB.out, FR1.out, FO1.out, FR2.out, FO2.out, FZ.out, FO3.out⟩
              · go_simp
                obtain ⟨b3, hbb⟩ : ∃ b3, b3 = v_35.heap.size := ⟨_, rfl⟩
                obtain ⟨v_43, hw2⟩ : ∃ v_43, v_43 = v_35.alloc (.cells #[.int .i64 0, .int .i64 0, .int .i64 0, .slice none 0 0] 53) := ⟨_, rfl⟩
                have nb3_0 := F0.out.lt
                rw [← hbb] at nb3_0
                have nb3_1 := F1.out.lt
                rw [← hbb] at nb3_1
                have nb3_3 := FR1.out.lt
                rw [← hbb] at nb3_3
                have nb3_oFO1 := fun k hk => (FO1.out.lt k hk).2
                rw [← hbb] at nb3_oFO1
                have nb3_5 := FR2.out.lt
                rw [← hbb] at nb3_5
                have nb3_oFO2 := fun k hk => (FO2.out.lt k hk).2
                rw [← hbb] at nb3_oFO2
                have FZ : Hid (RL v_43 b3) := by rw [hw2]; exact RL.at_ _ _ _ hbb
                have F0 : Hid (HAt v_43 w.heap.size a0) := by rw [hw2]; exact F0.out.alloc _
                have F1 : Hid (LW v_43 (w.heap.size + 1) a1.nx (.slice p1 a1.ps.length n1)) := by rw [hw2]; exact F1.out.alloc _
                have FB : Hid (Below w.heap.size w v_43) := by rw [hw2]; exact FB.out.alloc FB.out.size _
                have FR1 : Hid (LR v_43 b1 rk ri rn (.slice s1 rl.length c1)) := by rw [hw2]; exact FR1.out.alloc _
                have FO1 : Hid (Own v_43 w.heap.size (.slice s1 rl.length c1) rl) := by rw [hw2]; exact FO1.out.alloc _
                have FR2 : Hid (LR v_43 b2 rk ri rn (.slice s2 rl.length c2)) := by rw [hw2]; exact FR2.out.alloc _
                have FO2 : Hid (Own v_43 w.heap.size (.slice s2 rl.length c2) (markL 1 rl.length)) := by rw [hw2]; exact FO2.out.alloc _
                rw [← hw2, ← hbb]
                clear hbb hw2
                obtain ⟨x0_0, x0_1, x0_2, x0_3, x0_4, x0_5, x0_6, x0_7, x0_8, x0_9, x0_10, x0_11⟩ := F0.out
                have m0 := F1.out.c0
                have m1 := F1.out.c1
                refine hK.out _ _ (by (try dsimp only); first | exact ⟨x0_0, x0_1, x0_2, x0_3, x0_4, x0_5, x0_6, x0_7, x0_8, x0_9, x0_10, x0_11, m0, m1⟩ | go_keep) (fun hHeld => ?_)
                clear hK K
                try simp only [Act.put, List.getElem_toArray, List.getElem_cons_succ, List.getElem_cons_zero, List.setIfInBounds_toArray, List.set_cons_zero, List.set_cons_succ]
                refine wpAnyH_ready (rs := [3]) (by kernel_rfl) (by simp) ?_
                refine (AllReadyH.cons rfl (fun K hK => ?_) AllReadyH.nil)
                go_simp
                refine (toLedger_any a1.nx p1 n1 a1.ps hl _ ((HP.out.below FB.out (Nat.le_refl _)).mono FB.out.size)).mono ?_
                rintro e v_44 ⟨g4, rfl, ho, hb⟩
                have Gg4 : Hid (Ow v_44 w.heap.size g4 a1.ps.length a1.ps.length a1.ps) := ho.base FB.out.size
                have F0 : Hid (HAt v_44 w.heap.size a0) := F0.out.below hb F0.out.lt
                have F1 : Hid (LW v_44 (w.heap.size + 1) a1.nx (.slice p1 a1.ps.length n1)) := F1.out.below hb F1.out.lt
                have FB : Hid (Below w.heap.size w v_44) := FB.out.trans (hb.mono FB.out.size)
                have FR1 : Hid (LR v_44 b1 rk ri rn (.slice s1 rl.length c1)) := FR1.out.below hb FR1.out.lt
                have FO1 : Hid (Own v_44 w.heap.size (.slice s1 rl.length c1) rl) := FO1.out.below hb (fun k hk => (FO1.out.lt k hk).2)
                have FR2 : Hid (LR v_44 b2 rk ri rn (.slice s2 rl.length c2)) := FR2.out.below hb FR2.out.lt
                have FO2 : Hid (Own v_44 w.heap.size (.slice s2 rl.length c2) (markL 1 rl.length)) := FO2.out.below hb (fun k hk => (FO2.out.lt k hk).2)
                have FZ : Hid (RL v_44 b3) := FZ.out.below hb FZ.out.lt
                clear hb
                obtain ⟨x0_0, x0_1, x0_2, x0_3, x0_4, x0_5, x0_6, x0_7, x0_8, x0_9, x0_10, x0_11⟩ := F0.out
                have m0 := F1.out.c0
                have m1 := F1.out.c1
                clear ho
                try dsimp only
                refine hK.out _ _ (by (try dsimp only); first | exact ⟨x0_0, x0_1, x0_2, x0_3, x0_4, x0_5, x0_6, x0_7, x0_8, x0_9, x0_10, x0_11, m0, m1⟩ | go_keep) (fun hHeld => ?_)
                clear hK K
                try simp only [Act.put, List.getElem_toArray, List.getElem_cons_succ, List.getElem_cons_zero, List.setIfInBounds_toArray, List.set_cons_zero, List.set_cons_succ]
                refine wpAnyH_ready (rs := [8]) (by kernel_rfl) (by simp) ?_
                refine (AllReadyH.cons rfl (fun K hK => ?_) AllReadyH.nil)
                go_simp
                refine (CI w.heap.size g4 _ Gg4.out).mono ?_
                rintro e v_45 ⟨s3, c3, rfl, ho, hb⟩
                first | (have nq3 : ∀ k, (Value.slice s3 rl.length c3).ownBlock = some k → b3 < k := fun k hk => Nat.lt_of_lt_of_le FZ.out.lt (ho.lt k hk).1) | skip
                have FO3 : Hid (Own v_45 w.heap.size (.slice s3 rl.length c3) rl) := ho.base FB.out.size
                have F0 : Hid (HAt v_45 w.heap.size a0) := F0.out.below hb F0.out.lt
                have F1 : Hid (LW v_45 (w.heap.size + 1) a1.nx (.slice p1 a1.ps.length n1)) := F1.out.below hb F1.out.lt
                have FB : Hid (Below w.heap.size w v_45) := FB.out.trans (hb.mono FB.out.size)
                have FR1 : Hid (LR v_45 b1 rk ri rn (.slice s1 rl.length c1)) := FR1.out.below hb FR1.out.lt
                have FO1 : Hid (Own v_45 w.heap.size (.slice s1 rl.length c1) rl) := FO1.out.below hb (fun k hk => (FO1.out.lt k hk).2)
                have FR2 : Hid (LR v_45 b2 rk ri rn (.slice s2 rl.length c2)) := FR2.out.below hb FR2.out.lt
                have FO2 : Hid (Own v_45 w.heap.size (.slice s2 rl.length c2) (markL 1 rl.length)) := FO2.out.below hb (fun k hk => (FO2.out.lt k hk).2)
                have FZ : Hid (RL v_45 b3) := FZ.out.below hb FZ.out.lt
                have Gg4 : Hid (Ow v_45 w.heap.size g4 a1.ps.length a1.ps.length a1.ps) := Gg4.out.below hb Gg4.out.lt
                clear hb
                obtain ⟨x0_0, x0_1, x0_2, x0_3, x0_4, x0_5, x0_6, x0_7, x0_8, x0_9, x0_10, x0_11⟩ := F0.out
                have m0 := F1.out.c0
                have m1 := F1.out.c1
                clear ho
                try dsimp only
                refine hK.out _ _ (by (try dsimp only); first | exact ⟨x0_0, x0_1, x0_2, x0_3, x0_4, x0_5, x0_6, x0_7, x0_8, x0_9, x0_10, x0_11, m0, m1⟩ | go_keep) (fun hHeld => ?_)
                clear hK K
                try simp only [Act.put, List.getElem_toArray, List.getElem_cons_succ, List.getElem_cons_zero, List.setIfInBounds_toArray, List.set_cons_zero, List.set_cons_succ]
                refine wpAnyH_ready (rs := [10]) (by kernel_rfl) (by simp) ?_
                refine (AllReadyH.cons rfl (fun K hK => ?_) AllReadyH.nil)
                obtain ⟨z0, z1, z2, z3, z4, z5, z6, z7⟩ := FZ.out
                go_simp
                obtain ⟨v_46, hw2⟩ : ∃ v_46, v_46 = putR v_45 b3 rk ri rn (.slice s3 rl.length c3) := ⟨_, rfl⟩
                change K _ (putR v_45 b3 rk ri rn (.slice s3 rl.length c3))
                rw [← hw2]
                clear z0 z1 z2 z3 z4 z5 z6 z7
                have F0 : Hid (HAt v_46 w.heap.size a0) := by rw [hw2]; exact F0.out.below (below_putR (Below.refl _ _) (Nat.le_refl _) _ _ _ _) (by omega)
                have F1 : Hid (LW v_46 (w.heap.size + 1) a1.nx (.slice p1 a1.ps.length n1)) := by rw [hw2]; exact F1.out.below (below_putR (Below.refl _ _) (Nat.le_refl _) _ _ _ _) (by omega)
                have FB : Hid (Below w.heap.size w v_46) := by rw [hw2]; exact below_putR FB.out (by omega) _ _ _ _
                have FR1 : Hid (LR v_46 b1 rk ri rn (.slice s1 rl.length c1)) := by rw [hw2]; exact FR1.out.below (below_putR (Below.refl _ _) (Nat.le_refl _) _ _ _ _) (by omega)
                have FO1 : Hid (Own v_46 w.heap.size (.slice s1 rl.length c1) rl) := by rw [hw2]; exact FO1.out.putR (by intro k hk; have := nb3_oFO1 k hk; omega) _ _ _ _
                have FR2 : Hid (LR v_46 b2 rk ri rn (.slice s2 rl.length c2)) := by rw [hw2]; exact FR2.out.below (below_putR (Below.refl _ _) (Nat.le_refl _) _ _ _ _) (by omega)
                have FO2 : Hid (Own v_46 w.heap.size (.slice s2 rl.length c2) (markL 1 rl.length)) := by rw [hw2]; exact FO2.out.putR (by intro k hk; have := nb3_oFO2 k hk; omega) _ _ _ _
                have FZ : Hid (LR v_46 b3 rk ri rn (.slice s3 rl.length c3)) := by rw [hw2]; exact FZ.out.put _ _ _ _
                have FO3 : Hid (Own v_46 w.heap.size (.slice s3 rl.length c3) rl) := by rw [hw2]; exact FO3.out.putR (by intro k hk; first | (have := nq3 k hk; omega) | (have := nb3_oFO3 k hk; omega)) _ _ _ _
                clear hw2
                obtain ⟨x0_0, x0_1, x0_2, x0_3, x0_4, x0_5, x0_6, x0_7, x0_8, x0_9, x0_10, x0_11⟩ := F0.out
                have m0 := F1.out.c0
                have m1 := F1.out.c1
                refine hK.out _ _ (by (try dsimp only); first | exact ⟨x0_0, x0_1, x0_2, x0_3, x0_4, x0_5, x0_6, x0_7, x0_8, x0_9, x0_10, x0_11, m0, m1⟩ | go_keep) (fun hHeld => ?_)
                clear hK K
                try simp only [Act.put, List.getElem_toArray, List.getElem_cons_succ, List.getElem_cons_zero, List.setIfInBounds_toArray, List.set_cons_zero, List.set_cons_succ]
                refine wpAnyH_done (by kernel_rfl) ?_ _
                go_wp2_with fail
                go_meet
                case rel => exact ⟨b3, s3, c3, rfl, F0.out, F1.out, FB.out, FR1.out, FO1.out, FR2.out, FO2.out, FZ.out, FO3.out⟩
            · go_simp
              obtain ⟨b3, hbb⟩ : ∃ b3, b3 = v_34.heap.size := ⟨_, rfl⟩
              obtain ⟨v_47, hw2⟩ : ∃ v_47, v_47 = v_34.alloc (.cells #[.int .i64 0, .int .i64 0, .int .i64 0, .slice none 0 0] 53) := ⟨_, rfl⟩
              have nb3_0 := F0.out.lt
              rw [← hbb] at nb3_0
              have nb3_1 := F1.out.lt
              rw [← hbb] at nb3_1
              have nb3_3 := FR1.out.lt
              rw [← hbb] at nb3_3
              have nb3_oFO1 := fun k hk => (FO1.out.lt k hk).2
              rw [← hbb] at nb3_oFO1
              have nb3_5 := FR2.out.lt
              rw [← hbb] at nb3_5
              have nb3_oFO2 := fun k hk => (FO2.out.lt k hk).2
              rw [← hbb] at nb3_oFO2
              have FZ : Hid (RL v_47 b3) := by rw [hw2]; exact RL.at_ _ _ _ hbb
              have F0 : Hid (HAt v_47 w.heap.size a0) := by rw [hw2]; exact F0.out.alloc _
              have F1 : Hid (LW v_47 (w.heap.size + 1) a1.nx (.slice p1 a1.ps.length n1)) := by rw [hw2]; exact F1.out.alloc _
              have FB : Hid (Below w.heap.size w v_47) := by rw [hw2]; exact FB.out.alloc FB.out.size _
              have FR1 : Hid (LR v_47 b1 rk ri rn (.slice s1 rl.length c1)) := by rw [hw2]; exact FR1.out.alloc _
              have FO1 : Hid (Own v_47 w.heap.size (.slice s1 rl.length c1) rl) := by rw [hw2]; exact FO1.out.alloc _
              have FR2 : Hid (LR v_47 b2 rk ri rn (.slice s2 rl.length c2)) := by rw [hw2]; exact FR2.out.alloc _
              have FO2 : Hid (Own v_47 w.heap.size (.slice s2 rl.length c2) (markL 1 rl.length)) := by rw [hw2]; exact FO2.out.alloc _
              rw [← hw2, ← hbb]
              clear hbb hw2
              obtain ⟨x0_0, x0_1, x0_2, x0_3, x0_4, x0_5, x0_6, x0_7, x0_8, x0_9, x0_10, x0_11⟩ := F0.out
              have m0 := F1.out.c0
              have m1 := F1.out.c1
              refine hK.out _ _ (by (try dsimp only); first | exact ⟨x0_0, x0_1, x0_2, x0_3, x0_4, x0_5, x0_6, x0_7, x0_8, x0_9, x0_10, x0_11, m0, m1⟩ | go_keep) (fun hHeld => ?_)
              clear hK K
              try simp only [Act.put, List.getElem_toArray, List.getElem_cons_succ, List.getElem_cons_zero, List.setIfInBounds_toArray, List.set_cons_zero, List.set_cons_succ]
              refine wpAnyH_ready (rs := [1]) (by kernel_rfl) (by simp) ?_
              refine (AllReadyH.cons rfl (fun K hK => ?_) AllReadyH.nil)
              go_simp
              refine (toHouse_any a0 _).mono ?_
              rintro e v_48 ⟨rfl, hb⟩
              have F0 : Hid (HAt v_48 w.heap.size a0) := F0.out.below hb F0.out.lt
              have F1 : Hid (LW v_48 (w.heap.size + 1) a1.nx (.slice p1 a1.ps.length n1)) := F1.out.below hb F1.out.lt
              have FB : Hid (Below w.heap.size w v_48) := FB.out.trans (hb.mono FB.out.size)
              have FR1 : Hid (LR v_48 b1 rk ri rn (.slice s1 rl.length c1)) := FR1.out.below hb FR1.out.lt
              have FO1 : Hid (Own v_48 w.heap.size (.slice s1 rl.length c1) rl) := FO1.out.below hb (fun k hk => (FO1.out.lt k hk).2)
              have FR2 : Hid (LR v_48 b2 rk ri rn (.slice s2 rl.length c2)) := FR2.out.below hb FR2.out.lt
              have FO2 : Hid (Own v_48 w.heap.size (.slice s2 rl.length c2) (markL 1 rl.length)) := FO2.out.below hb (fun k hk => (FO2.out.lt k hk).2)
              have FZ : Hid (RL v_48 b3) := FZ.out.below hb FZ.out.lt
              clear hb
              obtain ⟨x0_0, x0_1, x0_2, x0_3, x0_4, x0_5, x0_6, x0_7, x0_8, x0_9, x0_10, x0_11⟩ := F0.out
              have m0 := F1.out.c0
              have m1 := F1.out.c1
              try dsimp only
              refine hK.out _ _ (by (try dsimp only); first | exact ⟨x0_0, x0_1, x0_2, x0_3, x0_4, x0_5, x0_6, x0_7, x0_8, x0_9, x0_10, x0_11, m0, m1⟩ | go_keep) (fun hHeld => ?_)
              clear hK K
              try simp only [Act.put, List.getElem_toArray, List.getElem_cons_succ, List.getElem_cons_zero, List.setIfInBounds_toArray, List.set_cons_zero, List.set_cons_succ]
              refine wpAnyH_ready (rs := [3]) (by kernel_rfl) (by simp) ?_
              refine (AllReadyH.cons rfl (fun K hK => ?_) AllReadyH.nil)
              go_simp
              refine (toLedger_any a1.nx p1 n1 a1.ps hl _ ((HP.out.below FB.out (Nat.le_refl _)).mono FB.out.size)).mono ?_
              rintro e v_49 ⟨g4, rfl, ho, hb⟩
              have Gg4 : Hid (Ow v_49 w.heap.size g4 a1.ps.length a1.ps.length a1.ps) := ho.base FB.out.size
              have F0 : Hid (HAt v_49 w.heap.size a0) := F0.out.below hb F0.out.lt
              have F1 : Hid (LW v_49 (w.heap.size + 1) a1.nx (.slice p1 a1.ps.length n1)) := F1.out.below hb F1.out.lt
              have FB : Hid (Below w.heap.size w v_49) := FB.out.trans (hb.mono FB.out.size)
              have FR1 : Hid (LR v_49 b1 rk ri rn (.slice s1 rl.length c1)) := FR1.out.below hb FR1.out.lt
              have FO1 : Hid (Own v_49 w.heap.size (.slice s1 rl.length c1) rl) := FO1.out.below hb (fun k hk => (FO1.out.lt k hk).2)
              have FR2 : Hid (LR v_49 b2 rk ri rn (.slice s2 rl.length c2)) := FR2.out.below hb FR2.out.lt
              have FO2 : Hid (Own v_49 w.heap.size (.slice s2 rl.length c2) (markL 1 rl.length)) := FO2.out.below hb (fun k hk => (FO2.out.lt k hk).2)
              have FZ : Hid (RL v_49 b3) := FZ.out.below hb FZ.out.lt
              clear hb
              obtain ⟨x0_0, x0_1, x0_2, x0_3, x0_4, x0_5, x0_6, x0_7, x0_8, x0_9, x0_10, x0_11⟩ := F0.out
              have m0 := F1.out.c0
              have m1 := F1.out.c1
              clear ho
              try dsimp only
              refine hK.out _ _ (by (try dsimp only); first | exact ⟨x0_0, x0_1, x0_2, x0_3, x0_4, x0_5, x0_6, x0_7, x0_8, x0_9, x0_10, x0_11, m0, m1⟩ | go_keep) (fun hHeld => ?_)
              clear hK K
              try simp only [Act.put, List.getElem_toArray, List.getElem_cons_succ, List.getElem_cons_zero, List.setIfInBounds_toArray, List.set_cons_zero, List.set_cons_succ]
              refine wpAnyH_ready (rs := [8]) (by kernel_rfl) (by simp) ?_
              refine (AllReadyH.cons rfl (fun K hK => ?_) AllReadyH.nil)
              go_simp
              refine (CI w.heap.size g4 _ Gg4.out).mono ?_
              rintro e v_50 ⟨s3, c3, rfl, ho, hb⟩
              first | (have nq3 : ∀ k, (Value.slice s3 rl.length c3).ownBlock = some k → b3 < k := fun k hk => Nat.lt_of_lt_of_le FZ.out.lt (ho.lt k hk).1) | skip
              have FO3 : Hid (Own v_50 w.heap.size (.slice s3 rl.length c3) rl) := ho.base FB.out.size
              have F0 : Hid (HAt v_50 w.heap.size a0) := F0.out.below hb F0.out.lt
              have F1 : Hid (LW v_50 (w.heap.size + 1) a1.nx (.slice p1 a1.ps.length n1)) := F1.out.below hb F1.out.lt
              have FB : Hid (Below w.heap.size w v_50) := FB.out.trans (hb.mono FB.out.size)
              have FR1 : Hid (LR v_50 b1 rk ri rn (.slice s1 rl.length c1)) := FR1.out.below hb FR1.out.lt
              have FO1 : Hid (Own v_50 w.heap.size (.slice s1 rl.length c1) rl) := FO1.out.below hb (fun k hk => (FO1.out.lt k hk).2)
              have FR2 : Hid (LR v_50 b2 rk ri rn (.slice s2 rl.length c2)) := FR2.out.below hb FR2.out.lt
              have FO2 : Hid (Own v_50 w.heap.size (.slice s2 rl.length c2) (markL 1 rl.length)) := FO2.out.below hb (fun k hk => (FO2.out.lt k hk).2)
              have FZ : Hid (RL v_50 b3) := FZ.out.below hb FZ.out.lt
              have Gg4 : Hid (Ow v_50 w.heap.size g4 a1.ps.length a1.ps.length a1.ps) := Gg4.out.below hb Gg4.out.lt
              clear hb
              obtain ⟨x0_0, x0_1, x0_2, x0_3, x0_4, x0_5, x0_6, x0_7, x0_8, x0_9, x0_10, x0_11⟩ := F0.out
              have m0 := F1.out.c0
              have m1 := F1.out.c1
              clear ho
              try dsimp only
              refine hK.out _ _ (by (try dsimp only); first | exact ⟨x0_0, x0_1, x0_2, x0_3, x0_4, x0_5, x0_6, x0_7, x0_8, x0_9, x0_10, x0_11, m0, m1⟩ | go_keep) (fun hHeld => ?_)
              clear hK K
              try simp only [Act.put, List.getElem_toArray, List.getElem_cons_succ, List.getElem_cons_zero, List.setIfInBounds_toArray, List.set_cons_zero, List.set_cons_succ]
              refine wpAnyH_ready (rs := [10]) (by kernel_rfl) (by simp) ?_
              refine (AllReadyH.cons rfl (fun K hK => ?_) AllReadyH.nil)
              obtain ⟨z0, z1, z2, z3, z4, z5, z6, z7⟩ := FZ.out
              go_simp
              obtain ⟨v_51, hw2⟩ : ∃ v_51, v_51 = putR v_50 b3 rk ri rn (.slice s3 rl.length c3) := ⟨_, rfl⟩
              change K _ (putR v_50 b3 rk ri rn (.slice s3 rl.length c3))
              rw [← hw2]
              clear z0 z1 z2 z3 z4 z5 z6 z7
              have F0 : Hid (HAt v_51 w.heap.size a0) := by rw [hw2]; exact F0.out.below (below_putR (Below.refl _ _) (Nat.le_refl _) _ _ _ _) (by omega)
              have F1 : Hid (LW v_51 (w.heap.size + 1) a1.nx (.slice p1 a1.ps.length n1)) := by rw [hw2]; exact F1.out.below (below_putR (Below.refl _ _) (Nat.le_refl _) _ _ _ _) (by omega)
              have FB : Hid (Below w.heap.size w v_51) := by rw [hw2]; exact below_putR FB.out (by omega) _ _ _ _
              have FR1 : Hid (LR v_51 b1 rk ri rn (.slice s1 rl.length c1)) := by rw [hw2]; exact FR1.out.below (below_putR (Below.refl _ _) (Nat.le_refl _) _ _ _ _) (by omega)
              have FO1 : Hid (Own v_51 w.heap.size (.slice s1 rl.length c1) rl) := by rw [hw2]; exact FO1.out.putR (by intro k hk; have := nb3_oFO1 k hk; omega) _ _ _ _
              have FR2 : Hid (LR v_51 b2 rk ri rn (.slice s2 rl.length c2)) := by rw [hw2]; exact FR2.out.below (below_putR (Below.refl _ _) (Nat.le_refl _) _ _ _ _) (by omega)
              have FO2 : Hid (Own v_51 w.heap.size (.slice s2 rl.length c2) (markL 1 rl.length)) := by rw [hw2]; exact FO2.out.putR (by intro k hk; have := nb3_oFO2 k hk; omega) _ _ _ _
              have FZ : Hid (LR v_51 b3 rk ri rn (.slice s3 rl.length c3)) := by rw [hw2]; exact FZ.out.put _ _ _ _
              have FO3 : Hid (Own v_51 w.heap.size (.slice s3 rl.length c3) rl) := by rw [hw2]; exact FO3.out.putR (by intro k hk; first | (have := nq3 k hk; omega) | (have := nb3_oFO3 k hk; omega)) _ _ _ _
              clear hw2
              obtain ⟨x0_0, x0_1, x0_2, x0_3, x0_4, x0_5, x0_6, x0_7, x0_8, x0_9, x0_10, x0_11⟩ := F0.out
              have m0 := F1.out.c0
              have m1 := F1.out.c1
              refine hK.out _ _ (by (try dsimp only); first | exact ⟨x0_0, x0_1, x0_2, x0_3, x0_4, x0_5, x0_6, x0_7, x0_8, x0_9, x0_10, x0_11, m0, m1⟩ | go_keep) (fun hHeld => ?_)
              clear hK K
              try simp only [Act.put, List.getElem_toArray, List.getElem_cons_succ, List.getElem_cons_zero, List.setIfInBounds_toArray, List.set_cons_zero, List.set_cons_succ]
              refine wpAnyH_done (by kernel_rfl) ?_ _
              go_wp2_with fail
              go_meet
              case rel => exact ⟨b3, s3, c3, rfl, F0.out, F1.out, FB.out, FR1.out, FO1.out, FR2.out, FO2.out, FZ.out, FO3.out⟩
          case rest =>
            obtain ⟨b3, s3, c3, rfl, hcut'⟩ := hcut
            obtain ⟨hF0, hF1, hFB, hFR1, hFO1, hFR2, hFO2, hFR3, hFO3⟩ := hcut'
            have F0 : Hid (HAt wc w.heap.size a0) := hF0
            have F1 : Hid (LW wc (w.heap.size + 1) a1.nx (.slice p1 a1.ps.length n1)) := hF1
            have FB : Hid (Below w.heap.size w wc) := hFB
            have FR1 : Hid (LR wc b1 rk ri rn (.slice s1 rl.length c1)) := hFR1
            have FO1 : Hid (Own wc w.heap.size (.slice s1 rl.length c1) rl) := hFO1
            have FR2 : Hid (LR wc b2 rk ri rn (.slice s2 rl.length c2)) := hFR2
            have FO2 : Hid (Own wc w.heap.size (.slice s2 rl.length c2) (markL 1 rl.length)) := hFO2
            have FR3 : Hid (LR wc b3 rk ri rn (.slice s3 rl.length c3)) := hFR3
            have FO3 : Hid (Own wc w.heap.size (.slice s3 rl.length c3) rl) := hFO3
            clear hF0 hF1 hFB hFR1 hFO1 hFR2 hFO2 hFR3 hFO3
            obtain ⟨x0_0, x0_1, x0_2, x0_3, x0_4, x0_5, x0_6, x0_7, x0_8, x0_9, x0_10, x0_11⟩ := F0.out
            obtain ⟨m0, m1, m2, m3⟩ := F1.out
            obtain ⟨r1_0, r1_1, r1_2, r1_3⟩ := FR1.out
            obtain ⟨r2_0, r2_1, r2_2, r2_3⟩ := FR2.out
            obtain ⟨r3_0, r3_1, r3_2, r3_3⟩ := FR3.out
            go_wp2_with (first | (go_at_call 29; refine (eqLedgerResult_same rk ri rn s3 s1 c3 c1 rl hrl _ FO3.out.pinS FO1.out.pinS).mono ?_; rintro e w11 ⟨rfl, hb⟩; have F0 : Hid (HAt w11 w.heap.size a0) := F0.out.below hb F0.out.lt; have F1 : Hid (LW w11 (w.heap.size + 1) a1.nx (.slice p1 a1.ps.length n1)) := F1.out.below hb F1.out.lt; have FB : Hid (Below w.heap.size w w11) := FB.out.trans (hb.mono FB.out.size); have FR1 : Hid (LR w11 b1 rk ri rn (.slice s1 rl.length c1)) := FR1.out.below hb FR1.out.lt; have FO1 : Hid (Own w11 w.heap.size (.slice s1 rl.length c1) rl) := FO1.out.below hb (fun k hk => (FO1.out.lt k hk).2); have FR2 : Hid (LR w11 b2 rk ri rn (.slice s2 rl.length c2)) := FR2.out.below hb FR2.out.lt; have FO2 : Hid (Own w11 w.heap.size (.slice s2 rl.length c2) (markL 1 rl.length)) := FO2.out.below hb (fun k hk => (FO2.out.lt k hk).2); clear hb; obtain ⟨x0_0, x0_1, x0_2, x0_3, x0_4, x0_5, x0_6, x0_7, x0_8, x0_9, x0_10, x0_11⟩ := F0.out; obtain ⟨m0, m1, m2, m3⟩ := F1.out; obtain ⟨r1_0, r1_1, r1_2, r1_3⟩ := FR1.out; obtain ⟨r2_0, r2_1, r2_2, r2_3⟩ := FR2.out) | (go_at_call 32; refine (heldLedgerResult_any w.heap.size rk ri rn (.slice s2 rl.length c2) rl.length 1 (by omega) (by omega) hrl _ FO2.out).mono ?_; rintro e w12 ⟨rfl, hb⟩; have F0 : Hid (HAt w12 w.heap.size a0) := F0.out.below hb F0.out.lt; have F1 : Hid (LW w12 (w.heap.size + 1) a1.nx (.slice p1 a1.ps.length n1)) := F1.out.below hb F1.out.lt; have FB : Hid (Below w.heap.size w w12) := FB.out.trans (hb.mono FB.out.size); have FR1 : Hid (LR w12 b1 rk ri rn (.slice s1 rl.length c1)) := FR1.out.below hb FR1.out.lt; have FO1 : Hid (Own w12 w.heap.size (.slice s1 rl.length c1) rl) := FO1.out.below hb (fun k hk => (FO1.out.lt k hk).2); have FR2 : Hid (LR w12 b2 rk ri rn (.slice s2 rl.length c2)) := FR2.out.below hb FR2.out.lt; have FO2 : Hid (Own w12 w.heap.size (.slice s2 rl.length c2) (markL 1 rl.length)) := FO2.out.below hb (fun k hk => (FO2.out.lt k hk).2); clear hb; obtain ⟨x0_0, x0_1, x0_2, x0_3, x0_4, x0_5, x0_6, x0_7, x0_8, x0_9, x0_10, x0_11⟩ := F0.out; obtain ⟨m0, m1, m2, m3⟩ := F1.out; obtain ⟨r1_0, r1_1, r1_2, r1_3⟩ := FR1.out; obtain ⟨r2_0, r2_1, r2_2, r2_3⟩ := FR2.out))
            go_ret
            exact ⟨by simp, FB.out⟩

set_option maxRecDepth 100000 in
theorem lifted (os : Os) (started : os.Started) (H : Type) (enc : TypeId × Value → H) :
    ReturnsInHanded {} Try.checked os 6 .any (Rows.fnExactAddCallSpec.pre6 enc Try.prog Try.f6 Rows.fnExactAddCallRow.domain false) (Rows.fnExactAddCallSpec.post enc Try.prog Try.f6 false true false false) := by
  refine returnsInHanded_of_change (C := Try.checked) own started (by kernel_rfl) Try.func6
    (ChangeSpec.witness6 (enc := enc) (C := Try.checked) false ⟨#[], #[.agg #[.int .i64 0, .int .i64 0, .int .i64 0, .int .i64 0, .int .i64 0, .int .i64 0, .int .i64 0, .int .i64 0, .int .i64 0, .int .i64 0, .int .i64 0, .int .i64 0], .agg #[.int .i64 0, .slice none 0 0], .int .i64 0, .int .i64 0, .int .i64 0, .int .i64 0], []⟩ 8 (by kernel_rfl) (by kernel_rfl) (by kernel_rfl) (by kernel_rfl)) ?_
  intro W base args ds gs before hval0 hW hcnd _
  have hval : ∀ (j : Nat) t v, Try.f6.params[j]? = some t → args[j]? = some v → Value.okWide Try.prog W .any base t v := hval0
  have hW' := hW
  obtain ⟨p, q, hA0, hV, rfl, hfz, hnd⟩ := hW
  have hA : DataW.TrodAll enc Try.prog W 0 (fun _ => true) true Try.f6.params.toList args.toList ds p := hA0
  rw [Try.params6] at hA hval
  obtain ⟨v0, vs0, d0, ds0, p0, q0, hargs, rfl, rfl, h0, r0⟩ := trodAll_cons hA
  obtain ⟨v1, vs1, d1, ds1, p1, q1, rfl, rfl, rfl, h1, r1⟩ := trodAll_cons r0
  obtain ⟨v2, vs2, d2, ds2, p2, q2, rfl, rfl, rfl, h2, r2⟩ := trodAll_cons r1
  obtain ⟨v3, vs3, d3, ds3, p3, q3, rfl, rfl, rfl, h3, r3⟩ := trodAll_cons r2
  obtain ⟨v4, vs4, d4, ds4, p4, q4, rfl, rfl, rfl, h4, r4⟩ := trodAll_cons r3
  obtain ⟨v5, vs5, d5, ds5, p5, q5, rfl, rfl, rfl, h5, r5⟩ := trodAll_cons r4
  obtain ⟨rfl, rfl, rfl⟩ := trodAll_nil r5
  obtain rfl : args = #[v0, v1, v2, v3, v4, v5] := by cases args; simp_all
  obtain ⟨rfl, rfl⟩ := trodVars_none hV
  have k0 := h0
  have lt0 : ∀ x ∈ p0, x.block < W.heap.size := by obtain ⟨m, hm⟩ := k0; exact DataW.trod_lt m _ _ _ hm
  obtain ⟨xs0, hl0, rfl, w0⟩ := open_i64s Try.underlying40 Try.underlying2 (by kernel_rfl) (by kernel_rfl) (by kernel_rfl) (hval 0 40 v0 rfl rfl) h0
  obtain ⟨x0_0, x0_1, x0_2, x0_3, x0_4, x0_5, x0_6, x0_7, x0_8, x0_9, x0_10, x0_11, rfl⟩ := list12 hl0
  have k1 := h1
  have lt1 : ∀ x ∈ p1, x.block < W.heap.size := by obtain ⟨m, hm⟩ := k1; exact DataW.trod_lt m _ _ _ hm
  obtain ⟨x1, pa1, nc1, rfl, w1, u1, ln1, pin1⟩ := open_led (ts := 41) (te := 112) (k := 2) Try.underlying43 Try.underlying41 Try.underlying112 Try.underlying2 (by kernel_rfl) (by kernel_rfl) (by kernel_rfl) (by kernel_rfl) (by kernel_rfl) rfl rfl rfl rfl rfl rfl (hval 1 43 v1 rfl rfl) h1
  have k2 := h2
  have lt2 : ∀ x ∈ p2, x.block < W.heap.size := by obtain ⟨m, hm⟩ := k2; exact DataW.trod_lt m _ _ _ hm
  obtain ⟨a2, rfl, _, _, w2⟩ := open_int Try.underlying2 (hval 2 2 v2 rfl rfl) h2
  have k3 := h3
  have lt3 : ∀ x ∈ p3, x.block < W.heap.size := by obtain ⟨m, hm⟩ := k3; exact DataW.trod_lt m _ _ _ hm
  obtain ⟨a3, rfl, _, _, w3⟩ := open_int Try.underlying2 (hval 3 2 v3 rfl rfl) h3
  have k4 := h4
  have lt4 : ∀ x ∈ p4, x.block < W.heap.size := by obtain ⟨m, hm⟩ := k4; exact DataW.trod_lt m _ _ _ hm
  obtain ⟨a4, rfl, _, _, w4⟩ := open_int Try.underlying2 (hval 4 2 v4 rfl rfl) h4
  have k5 := h5
  have lt5 : ∀ x ∈ p5, x.block < W.heap.size := by obtain ⟨m, hm⟩ := k5; exact DataW.trod_lt m _ _ _ hm
  obtain ⟨a5, rfl, _, _, w5⟩ := open_int Try.underlying2 (hval 5 2 v5 rfl rfl) h5
  clear hA0 hval0
  refine (walk ⟨x0_0, x0_1, x0_2, x0_3, x0_4, x0_5, x0_6, x0_7, x0_8, x0_9, x0_10, x0_11⟩ x1 a2 a3 a4 a5 w0 pa1 nc1 w1 u1 ln1 w2 w3 w4 w5 W pin1).mono fun e W' ⟨he, bel⟩ => ?_
  subst he
  exact ⟨_, rfl, _, _, _, [], _, [], hW', trodAll_mk1 (shut_bool Try.underlying4 _), (trodAll_cons_mk (Below.trod laidOut (by kernel_rfl) (of_decide_eq_true (by kernel_rfl)) k0 bel lt0) (trodAll_cons_mk (Below.trod laidOut (by kernel_rfl) (of_decide_eq_true (by kernel_rfl)) k1 bel lt1) (trodAll_cons_mk (Below.trod laidOut (by kernel_rfl) (of_decide_eq_true (by kernel_rfl)) k2 bel lt2) (trodAll_cons_mk (Below.trod laidOut (by kernel_rfl) (of_decide_eq_true (by kernel_rfl)) k3 bel lt3) (trodAll_cons_mk (Below.trod laidOut (by kernel_rfl) (of_decide_eq_true (by kernel_rfl)) k4 bel lt4) (trodAll_cons_mk (Below.trod laidOut (by kernel_rfl) (of_decide_eq_true (by kernel_rfl)) k5 bel lt5) trodAll_mk0)))))), rfl, bel.frame _, fun h => by cases h⟩

theorem over : Rows.fnExactAddCallRow.holds Try.pinned (OpenSpec.ofChange Rows.fnExactAddCallSpec) :=
  OpenClaim.holds_of_wide 6 Try.f6 rfl rfl rfl rfl rfl rfl rfl ⟨rfl, rfl, rfl, rfl, rfl⟩ rfl rfl rfl rfl rfl (by kernel_rfl) Try.func6 (by kernel_rfl)
    (of_decide_eq_true (by kernel_rfl)) (by unfold Func.isWrapper; first | (rw [if_pos (by decide +kernel)]; kernel_rfl) | (rw [if_neg (by decide +kernel)]; exact ⟨rfl, rfl⟩))
    (fun os started H enc _ => lifted os started H enc)

theorem proved : Rows.FnExactAddCallSaid := over
end Go.Proofs.Ytllphhhaaoggjaa.fnExactAddCall

namespace Go.Proofs.Ytllphhhaaoggjaa
theorem fnExactAddCall_holds : Rows.FnExactAddCallSaid := fnExactAddCall.proved
#print axioms fnExactAddCall_holds
end Go.Proofs.Ytllphhhaaoggjaa
