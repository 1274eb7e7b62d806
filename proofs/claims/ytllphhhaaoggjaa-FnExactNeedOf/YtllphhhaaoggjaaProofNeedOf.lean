/-
  At every argument NeedOf answers as the model does, field by field, and writes into no argument.
-/
import Derived.Test.YtllphhhaaoggjaaRows
import Derived.WalkKit
import Derived.ProofKit
import Derived.OpenShut
import Derived.ChangeOld
import Derived.Below
import Derived.Test.YtllphhhaaoggjaaLedJ
import Derived.Test.YtllphhhaaoggjaaPersT
import Derived.Test.YtllphhhaaoggjaaPersU
import Derived.Test.YtllphhhaaoggjaaOpenI
import Derived.Test.YtllphhhaaoggjaaOpenL
namespace Go.Proofs.Ytllphhhaaoggjaa.fnExactNeedOf
open Go.ChangeShapes Go.WideShapes Go.ChangeAt Go.RowKit
set_option linter.unusedVariables false
set_option linter.unusedSimpArgs false

theorem own : ownKnob Try.prog.godebug = none := by kernel_rfl
theorem laidOut : laidOutB Try.prog = true := by kernel_rfl

set_option maxRecDepth 20000 in
set_option maxHeartbeats 32000000 in
theorem walk (a0 : Pl.Hs) (a1 : Pl.Lg) (a2 : Int) (a3 : Int) (w0 : ∀ x ∈ [a0.fl, a0.gp, a0.ln, a0.rf, a0.sp, a0.pu, a0.br, a0.dr, a0.lv, a0.dO, a0.ld, a0.qu], (Lit.int .i64 x).wf = true) (p1 : Option Addr) (n1 : Nat) (w1 : (Lit.int .i64 a1.nx).wf = true) (u1 : wfL a1.ps) (l1 : a1.ps.length ≤ maxLen) (w2 : (Lit.int .i64 a2).wf = true) (w3 : (Lit.int .i64 a3).wf = true) (w : World) (q1 : PIn w w.heap.size p1 a1.ps) :
    Calls Try.prog 7 #[.agg #[.int .i64 a0.fl, .int .i64 a0.gp, .int .i64 a0.ln, .int .i64 a0.rf, .int .i64 a0.sp, .int .i64 a0.pu, .int .i64 a0.br, .int .i64 a0.dr, .int .i64 a0.lv, .int .i64 a0.dO, .int .i64 a0.ld, .int .i64 a0.qu], .agg #[.int .i64 a1.nx, .slice p1 a1.ps.length n1], .int .i64 a2, .int .i64 a3] w fun e w' => e = .returned (.bool true) ∧ Below w.heap.size w w' := by
  have HP : Hid (PIn w w.heap.size p1 a1.ps) := q1
  clear q1 w0
  have F0 : Hid (HAt ((w.alloc (.cells #[.int .i64 a0.fl, .int .i64 a0.gp, .int .i64 a0.ln, .int .i64 a0.rf, .int .i64 a0.sp, .int .i64 a0.pu, .int .i64 a0.br, .int .i64 a0.dr, .int .i64 a0.lv, .int .i64 a0.dO, .int .i64 a0.ld, .int .i64 a0.qu] 40)).alloc (.cells #[.int .i64 a1.nx, .slice p1 a1.ps.length n1] 43)) w.heap.size a0) := (HAt.new w a0 _).below ((Below.refl _ _).alloc (Nat.le_refl _) _) (by simp)
  have F1 : Hid (LW ((w.alloc (.cells #[.int .i64 a0.fl, .int .i64 a0.gp, .int .i64 a0.ln, .int .i64 a0.rf, .int .i64 a0.sp, .int .i64 a0.pu, .int .i64 a0.br, .int .i64 a0.dr, .int .i64 a0.lv, .int .i64 a0.dO, .int .i64 a0.ld, .int .i64 a0.qu] 40)).alloc (.cells #[.int .i64 a1.nx, .slice p1 a1.ps.length n1] 43)) (w.heap.size + 1) a1.nx (.slice p1 a1.ps.length n1)) := LW.at_ _ a1.nx (.slice p1 a1.ps.length n1) _ _ (by simp)
  have FB : Hid (Below w.heap.size w ((w.alloc (.cells #[.int .i64 a0.fl, .int .i64 a0.gp, .int .i64 a0.ln, .int .i64 a0.rf, .int .i64 a0.sp, .int .i64 a0.pu, .int .i64 a0.br, .int .i64 a0.dr, .int .i64 a0.lv, .int .i64 a0.dO, .int .i64 a0.ld, .int .i64 a0.qu] 40)).alloc (.cells #[.int .i64 a1.nx, .slice p1 a1.ps.length n1] 43))) := ((Below.refl _ _).alloc (Nat.le_refl _) _).alloc (by simp) _
  by_cases hl : a1.ps.length ≤ 1048576
  case neg =>
    have hs : (if (1048576 : Int) < a1.ps.length then (-1 : Int) else 1048576 - a1.ps.length) = -1 := if_pos (by omega)
    go_enter Try.func7, Try.ntmps7
    go_wp2_with (go_at_call 19; refine (szLedger_any a1.nx p1 a1.ps.length n1 1048576 (by omega) (by omega) l1 _).mono ?_; rw [hs]; rintro e w1 ⟨rfl, hb⟩; have FB : Hid (Below w.heap.size w w1) := FB.out.trans (hb.mono FB.out.size))
    go_ret
    exact ⟨by simp, FB.out⟩
  case pos =>
    obtain ⟨r, CS, CI⟩ : ∃ (r : Int × Int × Int), (∀ (B g : Nat) (W : World), Ow W B g a1.ps.length a1.ps.length a1.ps → Calls Try.prog 17 #[.agg #[.int .i64 a0.fl, .int .i64 a0.gp, .int .i64 a0.ln, .int .i64 a0.rf, .int .i64 a0.sp, .int .i64 a0.pu, .int .i64 a0.br, .int .i64 a0.dr, .int .i64 a0.lv, .int .i64 a0.dO, .int .i64 a0.ld, .int .i64 a0.qu], .agg #[.int .i64 a1.nx, .slice (some ⟨g, 0, none⟩) a1.ps.length a1.ps.length], .int .i64 a2, .int .i64 a3] W (fun e w' => e = .returned (.agg #[.int .i64 r.1, .int .i64 r.2.1, .int .i64 r.2.2]) ∧ Below W.heap.size W w')) ∧ (∀ (B g : Nat) (W : World), Ow W B g a1.ps.length a1.ps.length a1.ps → Calls Try.prog 16 #[.agg #[.int .i64 a0.fl, .int .i64 a0.gp, .int .i64 a0.ln, .int .i64 a0.rf, .int .i64 a0.sp, .int .i64 a0.pu, .int .i64 a0.br, .int .i64 a0.dr, .int .i64 a0.lv, .int .i64 a0.dO, .int .i64 a0.ld, .int .i64 a0.qu], .agg #[.int .i64 a1.nx, .slice (some ⟨g, 0, none⟩) a1.ps.length a1.ps.length], .int .i64 a2, .int .i64 a3] W (fun e w' => e = .returned (.agg #[.int .i64 r.1, .int .i64 r.2.1, .int .i64 r.2.2]) ∧ Below W.heap.size W w')) := ⟨_, fun B g W ho => specNeedOf_any a0 a1 a2 a3 _ _ hl W (ho.pin ho.bl.2), fun B g W ho => implNeedOf_any a0 a1 a2 a3 _ _ hl W (ho.pin ho.bl.2)⟩
    have hs : (if (1048576 : Int) < a1.ps.length then (-1 : Int) else 1048576 - a1.ps.length) = 1048576 - a1.ps.length := if_neg (by omega)
    have hs2 : ¬ ((1048576 : Int) - a1.ps.length < 0) := by omega
    go_enter Try.func7, Try.ntmps7
    go_wp2_with (go_at_call 19; refine (szLedger_any a1.nx p1 a1.ps.length n1 1048576 (by omega) (by omega) l1 _).mono ?_; rw [hs]; rintro e w1 ⟨rfl, hb⟩; have F0 : Hid (HAt w1 w.heap.size a0) := F0.out.below hb F0.out.lt; have F1 : Hid (LW w1 (w.heap.size + 1) a1.nx (.slice p1 a1.ps.length n1)) := F1.out.below hb F1.out.lt; have FB : Hid (Below w.heap.size w w1) := FB.out.trans (hb.mono FB.out.size); clear hb; obtain ⟨x0_0, x0_1, x0_2, x0_3, x0_4, x0_5, x0_6, x0_7, x0_8, x0_9, x0_10, x0_11⟩ := F0.out; obtain ⟨m0, m1, m2, m3⟩ := F1.out)
    go_cut [10] (fun t wx => ∃ b1, t = .pointer (some ⟨b1, 0, none⟩) ∧ HAt wx w.heap.size a0 ∧ LW wx (w.heap.size + 1) a1.nx (.slice p1 a1.ps.length n1) ∧ Below w.heap.size w wx ∧ NR wx b1 r)
    case first =>
      have F0 : Hid (HAt w1.drew w.heap.size a0) := F0.out.below (Below.refl _ _).drew F0.out.lt
      have F1 : Hid (LW w1.drew (w.heap.size + 1) a1.nx (.slice p1 a1.ps.length n1)) := F1.out.below (Below.refl _ _).drew F1.out.lt
      have FB : Hid (Below w.heap.size w w1.drew) := FB.out.drew
      obtain ⟨x0_0, x0_1, x0_2, x0_3, x0_4, x0_5, x0_6, x0_7, x0_8, x0_9, x0_10, x0_11⟩ := F0.out
      have m0 := F1.out.c0
      have m1 := F1.out.c1
      refine wp_region_held_drew (S := (fun w'' => w''.cell? ⟨w.heap.size, 0, none⟩ = some (.int .i64 a0.fl) ∧ w''.cell? ⟨w.heap.size, 1, none⟩ = some (.int .i64 a0.gp) ∧ w''.cell? ⟨w.heap.size, 2, none⟩ = some (.int .i64 a0.ln) ∧ w''.cell? ⟨w.heap.size, 3, none⟩ = some (.int .i64 a0.rf) ∧ w''.cell? ⟨w.heap.size, 4, none⟩ = some (.int .i64 a0.sp) ∧ w''.cell? ⟨w.heap.size, 5, none⟩ = some (.int .i64 a0.pu) ∧ w''.cell? ⟨w.heap.size, 6, none⟩ = some (.int .i64 a0.br) ∧ w''.cell? ⟨w.heap.size, 7, none⟩ = some (.int .i64 a0.dr) ∧ w''.cell? ⟨w.heap.size, 8, none⟩ = some (.int .i64 a0.lv) ∧ w''.cell? ⟨w.heap.size, 9, none⟩ = some (.int .i64 a0.dO) ∧ w''.cell? ⟨w.heap.size, 10, none⟩ = some (.int .i64 a0.ld) ∧ w''.cell? ⟨w.heap.size, 11, none⟩ = some (.int .i64 a0.qu) ∧ w''.cell? ⟨w.heap.size + 1, 0, none⟩ = some (.int .i64 a1.nx) ∧ w''.cell? ⟨w.heap.size + 1, 1, none⟩ = some (.slice p1 a1.ps.length n1))) (by kernel_rfl) (by (try dsimp only); first | exact ⟨x0_0, x0_1, x0_2, x0_3, x0_4, x0_5, x0_6, x0_7, x0_8, x0_9, x0_10, x0_11, m0, m1⟩ | go_keep) (fun hHeld => ?_)
      obtain ⟨v_1, hw1⟩ : ∃ v_1, v_1 = w1.drew := ⟨_, rfl⟩
      have F0 : Hid (HAt v_1 w.heap.size a0) := by rw [hw1]; exact F0.out
      have F1 : Hid (LW v_1 (w.heap.size + 1) a1.nx (.slice p1 a1.ps.length n1)) := by rw [hw1]; exact F1.out
      have FB : Hid (Below w.heap.size w v_1) := by rw [hw1]; exact FB.out
      rw [← hw1] at hHeld ⊢
      clear hw1
      obtain ⟨x0_0, x0_1, x0_2, x0_3, x0_4, x0_5, x0_6, x0_7, x0_8, x0_9, x0_10, x0_11⟩ := F0.out
      have m0 := F1.out.c0
      have m1 := F1.out.c1
      refine wpAnyH_take (i := 0) (v := _) rfl (by kernel_rfl) (by kernel_rfl) (by kernel_rfl) (fun _ _ _ h => h) (Or.inl ⟨by kernel_rfl, by (intro wx hSw; (try dsimp only at hSw); go_simp <;> with_reducible rfl)⟩) (by assumption) ?_
      try simp only [Act.put, List.getElem_toArray, List.getElem_cons_succ, List.getElem_cons_zero, List.setIfInBounds_toArray, List.set_cons_zero, List.set_cons_succ]
      refine wpAnyH_take (i := 2) (v := _) rfl (by kernel_rfl) (by kernel_rfl) (by kernel_rfl) (fun _ _ _ h => h) (Or.inl ⟨by kernel_rfl, by (intro wx hSw; (try dsimp only at hSw); go_simp <;> with_reducible rfl)⟩) (by assumption) ?_
      try simp only [Act.put, List.getElem_toArray, List.getElem_cons_succ, List.getElem_cons_zero, List.setIfInBounds_toArray, List.set_cons_zero, List.set_cons_succ]
      refine wpAnyH_take (i := 4) (v := _) rfl (by kernel_rfl) (by kernel_rfl) (by kernel_rfl) (fun _ _ _ h => h) (Or.inl ⟨by kernel_rfl, by (intro wx hSw; (try dsimp only at hSw); go_simp <;> with_reducible rfl)⟩) (by assumption) ?_
      try simp only [Act.put, List.getElem_toArray, List.getElem_cons_succ, List.getElem_cons_zero, List.setIfInBounds_toArray, List.set_cons_zero, List.set_cons_succ]
      refine wpAnyH_take (i := 5) (v := _) rfl (by kernel_rfl) (by kernel_rfl) (by kernel_rfl) (fun _ _ _ h => h) (Or.inl ⟨by kernel_rfl, by (intro wx hSw; (try dsimp only at hSw); go_simp <;> with_reducible rfl)⟩) (by assumption) ?_
      try simp only [Act.put, List.getElem_toArray, List.getElem_cons_succ, List.getElem_cons_zero, List.setIfInBounds_toArray, List.set_cons_zero, List.set_cons_succ]
      refine wpAnyH_ready (rs := [1, 7]) (by kernel_rfl) (by simp) ?_
      refine (AllReadyH.cons rfl (fun K hK => ?_) (AllReadyH.cons rfl (fun K hK => ?_) AllReadyH.nil))
      · go_simp
        refine (toHouse_any a0 _).mono ?_
        rintro e v_2 ⟨rfl, hb⟩
        have F0 : Hid (HAt v_2 w.heap.size a0) := F0.out.below hb F0.out.lt
        have F1 : Hid (LW v_2 (w.heap.size + 1) a1.nx (.slice p1 a1.ps.length n1)) := F1.out.below hb F1.out.lt
        have FB : Hid (Below w.heap.size w v_2) := FB.out.trans (hb.mono FB.out.size)
        clear hb
        obtain ⟨x0_0, x0_1, x0_2, x0_3, x0_4, x0_5, x0_6, x0_7, x0_8, x0_9, x0_10, x0_11⟩ := F0.out
        have m0 := F1.out.c0
        have m1 := F1.out.c1
        try dsimp only
        refine hK.out _ _ (by (try dsimp only); first | exact ⟨x0_0, x0_1, x0_2, x0_3, x0_4, x0_5, x0_6, x0_7, x0_8, x0_9, x0_10, x0_11, m0, m1⟩ | go_keep) (fun hHeld => ?_)
        clear hK K
        try simp only [Act.put, List.getElem_toArray, List.getElem_cons_succ, List.getElem_cons_zero, List.setIfInBounds_toArray, List.set_cons_zero, List.set_cons_succ]
        refine wpAnyH_ready (rs := [3, 7]) (by kernel_rfl) (by simp) ?_
        refine (AllReadyH.cons rfl (fun K hK => ?_) (AllReadyH.cons rfl (fun K hK => ?_) AllReadyH.nil))
        · go_simp
          refine (toLedger_any a1.nx p1 n1 a1.ps hl _ ((HP.out.below FB.out (Nat.le_refl _)).mono FB.out.size)).mono ?_
          rintro e v_3 ⟨g1, rfl, ho, hb⟩
          have Gg1 : Hid (Ow v_3 w.heap.size g1 a1.ps.length a1.ps.length a1.ps) := ho.base FB.out.size
          have F0 : Hid (HAt v_3 w.heap.size a0) := F0.out.below hb F0.out.lt
          have F1 : Hid (LW v_3 (w.heap.size + 1) a1.nx (.slice p1 a1.ps.length n1)) := F1.out.below hb F1.out.lt
          have FB : Hid (Below w.heap.size w v_3) := FB.out.trans (hb.mono FB.out.size)
          clear hb
          obtain ⟨x0_0, x0_1, x0_2, x0_3, x0_4, x0_5, x0_6, x0_7, x0_8, x0_9, x0_10, x0_11⟩ := F0.out
          have m0 := F1.out.c0
          have m1 := F1.out.c1
          clear ho
          try dsimp only
          refine hK.out _ _ (by (try dsimp only); first | exact ⟨x0_0, x0_1, x0_2, x0_3, x0_4, x0_5, x0_6, x0_7, x0_8, x0_9, x0_10, x0_11, m0, m1⟩ | go_keep) (fun hHeld => ?_)
          clear hK K
          try simp only [Act.put, List.getElem_toArray, List.getElem_cons_succ, List.getElem_cons_zero, List.setIfInBounds_toArray, List.set_cons_zero, List.set_cons_succ]
          refine wpAnyH_ready (rs := [6, 7]) (by kernel_rfl) (by simp) ?_
          refine (AllReadyH.cons rfl (fun K hK => ?_) (AllReadyH.cons rfl (fun K hK => ?_) AllReadyH.nil))
          · go_simp
            refine (CS w.heap.size g1 _ Gg1.out).mono ?_
            rintro e v_4 ⟨rfl, hb⟩
            have F0 : Hid (HAt v_4 w.heap.size a0) := F0.out.below hb F0.out.lt
            have F1 : Hid (LW v_4 (w.heap.size + 1) a1.nx (.slice p1 a1.ps.length n1)) := F1.out.below hb F1.out.lt
            have FB : Hid (Below w.heap.size w v_4) := FB.out.trans (hb.mono FB.out.size)
            have Gg1 : Hid (Ow v_4 w.heap.size g1 a1.ps.length a1.ps.length a1.ps) := Gg1.out.below hb Gg1.out.lt
            clear hb
            obtain ⟨x0_0, x0_1, x0_2, x0_3, x0_4, x0_5, x0_6, x0_7, x0_8, x0_9, x0_10, x0_11⟩ := F0.out
            have m0 := F1.out.c0
            have m1 := F1.out.c1
            try dsimp only
            refine hK.out _ _ (by (try dsimp only); first | exact ⟨x0_0, x0_1, x0_2, x0_3, x0_4, x0_5, x0_6, x0_7, x0_8, x0_9, x0_10, x0_11, m0, m1⟩ | go_keep) (fun hHeld => ?_)
            clear hK K
            try simp only [Act.put, List.getElem_toArray, List.getElem_cons_succ, List.getElem_cons_zero, List.setIfInBounds_toArray, List.set_cons_zero, List.set_cons_succ]
            refine wpAnyH_ready (rs := [7]) (by kernel_rfl) (by simp) ?_
            refine (AllReadyH.cons rfl (fun K hK => ?_) AllReadyH.nil)
            go_simp
            obtain ⟨b1, hbb⟩ : ∃ b1, b1 = v_4.heap.size := ⟨_, rfl⟩
            obtain ⟨v_5, hw2⟩ : ∃ v_5, v_5 = v_4.alloc (.cells #[.int .i64 0, .int .i64 0, .int .i64 0] 32) := ⟨_, rfl⟩
            have nb1_0 := F0.out.lt
            rw [← hbb] at nb1_0
            have nb1_1 := F1.out.lt
            rw [← hbb] at nb1_1
            have nb1_3 := Gg1.out.lt
            rw [← hbb] at nb1_3
            have FZ : Hid (R3 v_5 b1) := by rw [hw2]; exact R3.at_ _ _ _ hbb
            have F0 : Hid (HAt v_5 w.heap.size a0) := by rw [hw2]; exact F0.out.alloc _
            have F1 : Hid (LW v_5 (w.heap.size + 1) a1.nx (.slice p1 a1.ps.length n1)) := by rw [hw2]; exact F1.out.alloc _
            have FB : Hid (Below w.heap.size w v_5) := by rw [hw2]; exact FB.out.alloc FB.out.size _
            have Gg1 : Hid (Ow v_5 w.heap.size g1 a1.ps.length a1.ps.length a1.ps) := by rw [hw2]; exact Gg1.out.alloc _
            rw [← hw2, ← hbb]
            clear hbb hw2
            obtain ⟨x0_0, x0_1, x0_2, x0_3, x0_4, x0_5, x0_6, x0_7, x0_8, x0_9, x0_10, x0_11⟩ := F0.out
            have m0 := F1.out.c0
            have m1 := F1.out.c1
            refine hK.out _ _ (by (try dsimp only); first | exact ⟨x0_0, x0_1, x0_2, x0_3, x0_4, x0_5, x0_6, x0_7, x0_8, x0_9, x0_10, x0_11, m0, m1⟩ | go_keep) (fun hHeld => ?_)
            clear hK K
            try simp only [Act.put, List.getElem_toArray, List.getElem_cons_succ, List.getElem_cons_zero, List.setIfInBounds_toArray, List.set_cons_zero, List.set_cons_succ]
            refine wpAnyH_ready (rs := [8]) (by kernel_rfl) (by simp) ?_
            refine (AllReadyH.cons rfl (fun K hK => ?_) AllReadyH.nil)
            obtain ⟨z0, z1, z2, z3, z4, z5⟩ := FZ.out
            go_simp
            obtain ⟨v_6, hw2⟩ : ∃ v_6, v_6 = putN v_5 b1 r := ⟨_, rfl⟩
            change K _ (putN v_5 b1 r)
            rw [← hw2]
            clear z0 z1 z2 z3 z4 z5
            have F0 : Hid (HAt v_6 w.heap.size a0) := by rw [hw2]; exact F0.out.below (below_putN (Below.refl _ _) (Nat.le_refl _) _) (by omega)
            have F1 : Hid (LW v_6 (w.heap.size + 1) a1.nx (.slice p1 a1.ps.length n1)) := by rw [hw2]; exact F1.out.below (below_putN (Below.refl _ _) (Nat.le_refl _) _) (by omega)
            have FB : Hid (Below w.heap.size w v_6) := by rw [hw2]; exact below_putN FB.out (by omega) _
            have FZ : Hid (NR v_6 b1 r) := by rw [hw2]; exact FZ.out.putN _
            clear hw2
            obtain ⟨x0_0, x0_1, x0_2, x0_3, x0_4, x0_5, x0_6, x0_7, x0_8, x0_9, x0_10, x0_11⟩ := F0.out
            have m0 := F1.out.c0
            have m1 := F1.out.c1
            refine hK.out _ _ (by (try dsimp only); first | exact ⟨x0_0, x0_1, x0_2, x0_3, x0_4, x0_5, x0_6, x0_7, x0_8, x0_9, x0_10, x0_11, m0, m1⟩ | go_keep) (fun hHeld => ?_)
            clear hK K
            try simp only [Act.put, List.getElem_toArray, List.getElem_cons_succ, List.getElem_cons_zero, List.setIfInBounds_toArray, List.set_cons_zero, List.set_cons_succ]
            refine wpAnyH_done (by kernel_rfl) ?_ _
            go_wp2_with fail
            go_meet
            case rel => exact ⟨b1, rfl, F0.out, F1.out, FB.out, FZ.out⟩
          · go_simp
            obtain ⟨b1, hbb⟩ : ∃ b1, b1 = v_3.heap.size := ⟨_, rfl⟩
            obtain ⟨v_7, hw2⟩ : ∃ v_7, v_7 = v_3.alloc (.cells #[.int .i64 0, .int .i64 0, .int .i64 0] 32) := ⟨_, rfl⟩
            have nb1_0 := F0.out.lt
            rw [← hbb] at nb1_0
            have nb1_1 := F1.out.lt
            rw [← hbb] at nb1_1
            have nb1_3 := Gg1.out.lt
            rw [← hbb] at nb1_3
            have FZ : Hid (R3 v_7 b1) := by rw [hw2]; exact R3.at_ _ _ _ hbb
            have F0 : Hid (HAt v_7 w.heap.size a0) := by rw [hw2]; exact F0.out.alloc _
            have F1 : Hid (LW v_7 (w.heap.size + 1) a1.nx (.slice p1 a1.ps.length n1)) := by rw [hw2]; exact F1.out.alloc _
            have FB : Hid (Below w.heap.size w v_7) := by rw [hw2]; exact FB.out.alloc FB.out.size _
            have Gg1 : Hid (Ow v_7 w.heap.size g1 a1.ps.length a1.ps.length a1.ps) := by rw [hw2]; exact Gg1.out.alloc _
            rw [← hw2, ← hbb]
            clear hbb hw2
            obtain ⟨x0_0, x0_1, x0_2, x0_3, x0_4, x0_5, x0_6, x0_7, x0_8, x0_9, x0_10, x0_11⟩ := F0.out
            have m0 := F1.out.c0
            have m1 := F1.out.c1
            refine hK.out _ _ (by (try dsimp only); first | exact ⟨x0_0, x0_1, x0_2, x0_3, x0_4, x0_5, x0_6, x0_7, x0_8, x0_9, x0_10, x0_11, m0, m1⟩ | go_keep) (fun hHeld => ?_)
            clear hK K
            try simp only [Act.put, List.getElem_toArray, List.getElem_cons_succ, List.getElem_cons_zero, List.setIfInBounds_toArray, List.set_cons_zero, List.set_cons_succ]
            refine wpAnyH_ready (rs := [6]) (by kernel_rfl) (by simp) ?_
            refine (AllReadyH.cons rfl (fun K hK => ?_) AllReadyH.nil)
            go_simp
            refine (CS w.heap.size g1 _ Gg1.out).mono ?_
            rintro e v_8 ⟨rfl, hb⟩
            have F0 : Hid (HAt v_8 w.heap.size a0) := F0.out.below hb F0.out.lt
            have F1 : Hid (LW v_8 (w.heap.size + 1) a1.nx (.slice p1 a1.ps.length n1)) := F1.out.below hb F1.out.lt
            have FB : Hid (Below w.heap.size w v_8) := FB.out.trans (hb.mono FB.out.size)
            have Gg1 : Hid (Ow v_8 w.heap.size g1 a1.ps.length a1.ps.length a1.ps) := Gg1.out.below hb Gg1.out.lt
            have FZ : Hid (R3 v_8 b1) := FZ.out.below hb FZ.out.lt
            clear hb
            obtain ⟨x0_0, x0_1, x0_2, x0_3, x0_4, x0_5, x0_6, x0_7, x0_8, x0_9, x0_10, x0_11⟩ := F0.out
            have m0 := F1.out.c0
            have m1 := F1.out.c1
            try dsimp only
            refine hK.out _ _ (by (try dsimp only); first | exact ⟨x0_0, x0_1, x0_2, x0_3, x0_4, x0_5, x0_6, x0_7, x0_8, x0_9, x0_10, x0_11, m0, m1⟩ | go_keep) (fun hHeld => ?_)
            clear hK K
            try simp only [Act.put, List.getElem_toArray, List.getElem_cons_succ, List.getElem_cons_zero, List.setIfInBounds_toArray, List.set_cons_zero, List.set_cons_succ]
            refine wpAnyH_ready (rs := [8]) (by kernel_rfl) (by simp) ?_
            refine (AllReadyH.cons rfl (fun K hK => ?_) AllReadyH.nil)
            obtain ⟨z0, z1, z2, z3, z4, z5⟩ := FZ.out
            go_simp
            obtain ⟨v_9, hw2⟩ : ∃ v_9, v_9 = putN v_8 b1 r := ⟨_, rfl⟩
            change K _ (putN v_8 b1 r)
            rw [← hw2]
            clear z0 z1 z2 z3 z4 z5
            have F0 : Hid (HAt v_9 w.heap.size a0) := by rw [hw2]; exact F0.out.below (below_putN (Below.refl _ _) (Nat.le_refl _) _) (by omega)
            have F1 : Hid (LW v_9 (w.heap.size + 1) a1.nx (.slice p1 a1.ps.length n1)) := by rw [hw2]; exact F1.out.below (below_putN (Below.refl _ _) (Nat.le_refl _) _) (by omega)
            have FB : Hid (Below w.heap.size w v_9) := by rw [hw2]; exact below_putN FB.out (by omega) _
            have FZ : Hid (NR v_9 b1 r) := by rw [hw2]; exact FZ.out.putN _
            clear hw2
            obtain ⟨x0_0, x0_1, x0_2, x0_3, x0_4, x0_5, x0_6, x0_7, x0_8, x0_9, x0_10, x0_11⟩ := F0.out
            have m0 := F1.out.c0
            have m1 := F1.out.c1
            refine hK.out _ _ (by (try dsimp only); first | exact ⟨x0_0, x0_1, x0_2, x0_3, x0_4, x0_5, x0_6, x0_7, x0_8, x0_9, x0_10, x0_11, m0, m1⟩ | go_keep) (fun hHeld => ?_)
            clear hK K
            try simp only [Act.put, List.getElem_toArray, List.getElem_cons_succ, List.getElem_cons_zero, List.setIfInBounds_toArray, List.set_cons_zero, List.set_cons_succ]
            refine wpAnyH_done (by kernel_rfl) ?_ _
            go_wp2_with fail
            go_meet
            case rel => exact ⟨b1, rfl, F0.out, F1.out, FB.out, FZ.out⟩
        · go_simp
          obtain ⟨b1, hbb⟩ : ∃ b1, b1 = v_2.heap.size := ⟨_, rfl⟩
          obtain ⟨v_10, hw2⟩ : ∃ v_10, v_10 = v_2.alloc (.cells #[.int .i64 0, .int .i64 0, .int .i64 0] 32) := ⟨_, rfl⟩
          have nb1_0 := F0.out.lt
          rw [← hbb] at nb1_0
          have nb1_1 := F1.out.lt
          rw [← hbb] at nb1_1
          have FZ : Hid (R3 v_10 b1) := by rw [hw2]; exact R3.at_ _ _ _ hbb
          have F0 : Hid (HAt v_10 w.heap.size a0) := by rw [hw2]; exact F0.out.alloc _
          have F1 : Hid (LW v_10 (w.heap.size + 1) a1.nx (.slice p1 a1.ps.length n1)) := by rw [hw2]; exact F1.out.alloc _
          have FB : Hid (Below w.heap.size w v_10) := by rw [hw2]; exact FB.out.alloc FB.out.size _
          rw [← hw2, ← hbb]
          clear hbb hw2
          obtain ⟨x0_0, x0_1, x0_2, x0_3, x0_4, x0_5, x0_6, x0_7, x0_8, x0_9, x0_10, x0_11⟩ := F0.out
          have m0 := F1.out.c0
          have m1 := F1.out.c1
          refine hK.out _ _ (by (try dsimp only); first | exact ⟨x0_0, x0_1, x0_2, x0_3, x0_4, x0_5, x0_6, x0_7, x0_8, x0_9, x0_10, x0_11, m0, m1⟩ | go_keep) (fun hHeld => ?_)
          clear hK K
          try simp only [Act.put, List.getElem_toArray, List.getElem_cons_succ, List.getElem_cons_zero, List.setIfInBounds_toArray, List.set_cons_zero, List.set_cons_succ]
          refine wpAnyH_ready (rs := [3]) (by kernel_rfl) (by simp) ?_
          refine (AllReadyH.cons rfl (fun K hK => ?_) AllReadyH.nil)
          go_simp
          refine (toLedger_any a1.nx p1 n1 a1.ps hl _ ((HP.out.below FB.out (Nat.le_refl _)).mono FB.out.size)).mono ?_
          rintro e v_11 ⟨g1, rfl, ho, hb⟩
          have Gg1 : Hid (Ow v_11 w.heap.size g1 a1.ps.length a1.ps.length a1.ps) := ho.base FB.out.size
          have F0 : Hid (HAt v_11 w.heap.size a0) := F0.out.below hb F0.out.lt
          have F1 : Hid (LW v_11 (w.heap.size + 1) a1.nx (.slice p1 a1.ps.length n1)) := F1.out.below hb F1.out.lt
          have FB : Hid (Below w.heap.size w v_11) := FB.out.trans (hb.mono FB.out.size)
          have FZ : Hid (R3 v_11 b1) := FZ.out.below hb FZ.out.lt
          clear hb
          obtain ⟨x0_0, x0_1, x0_2, x0_3, x0_4, x0_5, x0_6, x0_7, x0_8, x0_9, x0_10, x0_11⟩ := F0.out
          have m0 := F1.out.c0
          have m1 := F1.out.c1
          clear ho
          try dsimp only
          refine hK.out _ _ (by (try dsimp only); first | exact ⟨x0_0, x0_1, x0_2, x0_3, x0_4, x0_5, x0_6, x0_7, x0_8, x0_9, x0_10, x0_11, m0, m1⟩ | go_keep) (fun hHeld => ?_)
          clear hK K
          try simp only [Act.put, List.getElem_toArray, List.getElem_cons_succ, List.getElem_cons_zero, List.setIfInBounds_toArray, List.set_cons_zero, List.set_cons_succ]
          refine wpAnyH_ready (rs := [6]) (by kernel_rfl) (by simp) ?_
          refine (AllReadyH.cons rfl (fun K hK => ?_) AllReadyH.nil)
          go_simp
          refine (CS w.heap.size g1 _ Gg1.out).mono ?_
          rintro e v_12 ⟨rfl, hb⟩
          have F0 : Hid (HAt v_12 w.heap.size a0) := F0.out.below hb F0.out.lt
          have F1 : Hid (LW v_12 (w.heap.size + 1) a1.nx (.slice p1 a1.ps.length n1)) := F1.out.below hb F1.out.lt
          have FB : Hid (Below w.heap.size w v_12) := FB.out.trans (hb.mono FB.out.size)
          have FZ : Hid (R3 v_12 b1) := FZ.out.below hb FZ.out.lt
          have Gg1 : Hid (Ow v_12 w.heap.size g1 a1.ps.length a1.ps.length a1.ps) := Gg1.out.below hb Gg1.out.lt
          clear hb
          obtain ⟨x0_0, x0_1, x0_2, x0_3, x0_4, x0_5, x0_6, x0_7, x0_8, x0_9, x0_10, x0_11⟩ := F0.out
          have m0 := F1.out.c0
          have m1 := F1.out.c1
          try dsimp only
          refine hK.out _ _ (by (try dsimp only); first | exact ⟨x0_0, x0_1, x0_2, x0_3, x0_4, x0_5, x0_6, x0_7, x0_8, x0_9, x0_10, x0_11, m0, m1⟩ | go_keep) (fun hHeld => ?_)
          clear hK K
          try simp only [Act.put, List.getElem_toArray, List.getElem_cons_succ, List.getElem_cons_zero, List.setIfInBounds_toArray, List.set_cons_zero, List.set_cons_succ]
          refine wpAnyH_ready (rs := [8]) (by kernel_rfl) (by simp) ?_
          refine (AllReadyH.cons rfl (fun K hK => ?_) AllReadyH.nil)
          obtain ⟨z0, z1, z2, z3, z4, z5⟩ := FZ.out
          go_simp
          obtain ⟨v_13, hw2⟩ : ∃ v_13, v_13 = putN v_12 b1 r := ⟨_, rfl⟩
          change K _ (putN v_12 b1 r)
          rw [← hw2]
          clear z0 z1 z2 z3 z4 z5
          have F0 : Hid (HAt v_13 w.heap.size a0) := by rw [hw2]; exact F0.out.below (below_putN (Below.refl _ _) (Nat.le_refl _) _) (by omega)
          have F1 : Hid (LW v_13 (w.heap.size + 1) a1.nx (.slice p1 a1.ps.length n1)) := by rw [hw2]; exact F1.out.below (below_putN (Below.refl _ _) (Nat.le_refl _) _) (by omega)
          have FB : Hid (Below w.heap.size w v_13) := by rw [hw2]; exact below_putN FB.out (by omega) _
          have FZ : Hid (NR v_13 b1 r) := by rw [hw2]; exact FZ.out.putN _
          clear hw2
          obtain ⟨x0_0, x0_1, x0_2, x0_3, x0_4, x0_5, x0_6, x0_7, x0_8, x0_9, x0_10, x0_11⟩ := F0.out
          have m0 := F1.out.c0
          have m1 := F1.out.c1
          refine hK.out _ _ (by (try dsimp only); first | exact ⟨x0_0, x0_1, x0_2, x0_3, x0_4, x0_5, x0_6, x0_7, x0_8, x0_9, x0_10, x0_11, m0, m1⟩ | go_keep) (fun hHeld => ?_)
          clear hK K
          try simp only [Act.put, List.getElem_toArray, List.getElem_cons_succ, List.getElem_cons_zero, List.setIfInBounds_toArray, List.set_cons_zero, List.set_cons_succ]
          refine wpAnyH_done (by kernel_rfl) ?_ _
          go_wp2_with fail
          go_meet
          case rel => exact ⟨b1, rfl, F0.out, F1.out, FB.out, FZ.out⟩
      · go_simp
        obtain ⟨b1, hbb⟩ : ∃ b1, b1 = v_1.heap.size := ⟨_, rfl⟩
        obtain ⟨v_14, hw2⟩ : ∃ v_14, v_14 = v_1.alloc (.cells #[.int .i64 0, .int .i64 0, .int .i64 0] 32) := ⟨_, rfl⟩
        have nb1_0 := F0.out.lt
        rw [← hbb] at nb1_0
        have nb1_1 := F1.out.lt
        rw [← hbb] at nb1_1
        have FZ : Hid (R3 v_14 b1) := by rw [hw2]; exact R3.at_ _ _ _ hbb
        have F0 : Hid (HAt v_14 w.heap.size a0) := by rw [hw2]; exact F0.out.alloc _
        have F1 : Hid (LW v_14 (w.heap.size + 1) a1.nx (.slice p1 a1.ps.length n1)) := by rw [hw2]; exact F1.out.alloc _
        have FB : Hid (Below w.heap.size w v_14) := by rw [hw2]; exact FB.out.alloc FB.out.size _
        rw [← hw2, ← hbb]
        clear hbb hw2
        obtain ⟨x0_0, x0_1, x0_2, x0_3, x0_4, x0_5, x0_6, x0_7, x0_8, x0_9, x0_10, x0_11⟩ := F0.out
        have m0 := F1.out.c0
        have m1 := F1.out.c1
        refine hK.out _ _ (by (try dsimp only); first | exact ⟨x0_0, x0_1, x0_2, x0_3, x0_4, x0_5, x0_6, x0_7, x0_8, x0_9, x0_10, x0_11, m0, m1⟩ | go_keep) (fun hHeld => ?_)
        clear hK K
        try simp only [Act.put, List.getElem_toArray, List.getElem_cons_succ, List.getElem_cons_zero, List.setIfInBounds_toArray, List.set_cons_zero, List.set_cons_succ]
        refine wpAnyH_ready (rs := [1]) (by kernel_rfl) (by simp) ?_
        refine (AllReadyH.cons rfl (fun K hK => ?_) AllReadyH.nil)
        go_simp
        refine (toHouse_any a0 _).mono ?_
        rintro e v_15 ⟨rfl, hb⟩
        have F0 : Hid (HAt v_15 w.heap.size a0) := F0.out.below hb F0.out.lt
        have F1 : Hid (LW v_15 (w.heap.size + 1) a1.nx (.slice p1 a1.ps.length n1)) := F1.out.below hb F1.out.lt
        have FB : Hid (Below w.heap.size w v_15) := FB.out.trans (hb.mono FB.out.size)
        have FZ : Hid (R3 v_15 b1) := FZ.out.below hb FZ.out.lt
        clear hb
        obtain ⟨x0_0, x0_1, x0_2, x0_3, x0_4, x0_5, x0_6, x0_7, x0_8, x0_9, x0_10, x0_11⟩ := F0.out
        have m0 := F1.out.c0
        have m1 := F1.out.c1
        try dsimp only
        refine hK.out _ _ (by (try dsimp only); first | exact ⟨x0_0, x0_1, x0_2, x0_3, x0_4, x0_5, x0_6, x0_7, x0_8, x0_9, x0_10, x0_11, m0, m1⟩ | go_keep) (fun hHeld => ?_)
        clear hK K
        try simp only [Act.put, List.getElem_toArray, List.getElem_cons_succ, List.getElem_cons_zero, List.setIfInBounds_toArray, List.set_cons_zero, List.set_cons_succ]
        refine wpAnyH_ready (rs := [3]) (by kernel_rfl) (by simp) ?_
        refine (AllReadyH.cons rfl (fun K hK => ?_) AllReadyH.nil)
        go_simp
        refine (toLedger_any a1.nx p1 n1 a1.ps hl _ ((HP.out.below FB.out (Nat.le_refl _)).mono FB.out.size)).mono ?_
        rintro e v_16 ⟨g1, rfl, ho, hb⟩
        have Gg1 : Hid (Ow v_16 w.heap.size g1 a1.ps.length a1.ps.length a1.ps) := ho.base FB.out.size
        have F0 : Hid (HAt v_16 w.heap.size a0) := F0.out.below hb F0.out.lt
        have F1 : Hid (LW v_16 (w.heap.size + 1) a1.nx (.slice p1 a1.ps.length n1)) := F1.out.below hb F1.out.lt
        have FB : Hid (Below w.heap.size w v_16) := FB.out.trans (hb.mono FB.out.size)
        have FZ : Hid (R3 v_16 b1) := FZ.out.below hb FZ.out.lt
        clear hb
        obtain ⟨x0_0, x0_1, x0_2, x0_3, x0_4, x0_5, x0_6, x0_7, x0_8, x0_9, x0_10, x0_11⟩ := F0.out
        have m0 := F1.out.c0
        have m1 := F1.out.c1
        clear ho
        try dsimp only
        refine hK.out _ _ (by (try dsimp only); first | exact ⟨x0_0, x0_1, x0_2, x0_3, x0_4, x0_5, x0_6, x0_7, x0_8, x0_9, x0_10, x0_11, m0, m1⟩ | go_keep) (fun hHeld => ?_)
        clear hK K
        try simp only [Act.put, List.getElem_toArray, List.getElem_cons_succ, List.getElem_cons_zero, List.setIfInBounds_toArray, List.set_cons_zero, List.set_cons_succ]
        refine wpAnyH_ready (rs := [6]) (by kernel_rfl) (by simp) ?_
        refine (AllReadyH.cons rfl (fun K hK => ?_) AllReadyH.nil)
        go_simp
        refine (CS w.heap.size g1 _ Gg1.out).mono ?_
        rintro e v_17 ⟨rfl, hb⟩
        have F0 : Hid (HAt v_17 w.heap.size a0) := F0.out.below hb F0.out.lt
        have F1 : Hid (LW v_17 (w.heap.size + 1) a1.nx (.slice p1 a1.ps.length n1)) := F1.out.below hb F1.out.lt
        have FB : Hid (Below w.heap.size w v_17) := FB.out.trans (hb.mono FB.out.size)
        have FZ : Hid (R3 v_17 b1) := FZ.out.below hb FZ.out.lt
        have Gg1 : Hid (Ow v_17 w.heap.size g1 a1.ps.length a1.ps.length a1.ps) := Gg1.out.below hb Gg1.out.lt
        clear hb
        obtain ⟨x0_0, x0_1, x0_2, x0_3, x0_4, x0_5, x0_6, x0_7, x0_8, x0_9, x0_10, x0_11⟩ := F0.out
        have m0 := F1.out.c0
        have m1 := F1.out.c1
        try dsimp only
        refine hK.out _ _ (by (try dsimp only); first | exact ⟨x0_0, x0_1, x0_2, x0_3, x0_4, x0_5, x0_6, x0_7, x0_8, x0_9, x0_10, x0_11, m0, m1⟩ | go_keep) (fun hHeld => ?_)
        clear hK K
        try simp only [Act.put, List.getElem_toArray, List.getElem_cons_succ, List.getElem_cons_zero, List.setIfInBounds_toArray, List.set_cons_zero, List.set_cons_succ]
        refine wpAnyH_ready (rs := [8]) (by kernel_rfl) (by simp) ?_
        refine (AllReadyH.cons rfl (fun K hK => ?_) AllReadyH.nil)
        obtain ⟨z0, z1, z2, z3, z4, z5⟩ := FZ.out
        go_simp
        obtain ⟨v_18, hw2⟩ : ∃ v_18, v_18 = putN v_17 b1 r := ⟨_, rfl⟩
        change K _ (putN v_17 b1 r)
        rw [← hw2]
        clear z0 z1 z2 z3 z4 z5
        have F0 : Hid (HAt v_18 w.heap.size a0) := by rw [hw2]; exact F0.out.below (below_putN (Below.refl _ _) (Nat.le_refl _) _) (by omega)
        have F1 : Hid (LW v_18 (w.heap.size + 1) a1.nx (.slice p1 a1.ps.length n1)) := by rw [hw2]; exact F1.out.below (below_putN (Below.refl _ _) (Nat.le_refl _) _) (by omega)
        have FB : Hid (Below w.heap.size w v_18) := by rw [hw2]; exact below_putN FB.out (by omega) _
        have FZ : Hid (NR v_18 b1 r) := by rw [hw2]; exact FZ.out.putN _
        clear hw2
        obtain ⟨x0_0, x0_1, x0_2, x0_3, x0_4, x0_5, x0_6, x0_7, x0_8, x0_9, x0_10, x0_11⟩ := F0.out
        have m0 := F1.out.c0
        have m1 := F1.out.c1
        refine hK.out _ _ (by (try dsimp only); first | exact ⟨x0_0, x0_1, x0_2, x0_3, x0_4, x0_5, x0_6, x0_7, x0_8, x0_9, x0_10, x0_11, m0, m1⟩ | go_keep) (fun hHeld => ?_)
        clear hK K
        try simp only [Act.put, List.getElem_toArray, List.getElem_cons_succ, List.getElem_cons_zero, List.setIfInBounds_toArray, List.set_cons_zero, List.set_cons_succ]
        refine wpAnyH_done (by kernel_rfl) ?_ _
        go_wp2_with fail
        go_meet
        case rel => exact ⟨b1, rfl, F0.out, F1.out, FB.out, FZ.out⟩
    case rest =>
      obtain ⟨b1, rfl, hcut'⟩ := hcut
      obtain ⟨hF0, hF1, hFB, hFR1⟩ := hcut'
      have F0 : Hid (HAt wc w.heap.size a0) := hF0
      have F1 : Hid (LW wc (w.heap.size + 1) a1.nx (.slice p1 a1.ps.length n1)) := hF1
      have FB : Hid (Below w.heap.size w wc) := hFB
      have FR1 : Hid (NR wc b1 r) := hFR1
      clear hF0 hF1 hFB hFR1
      obtain ⟨x0_0, x0_1, x0_2, x0_3, x0_4, x0_5, x0_6, x0_7, x0_8, x0_9, x0_10, x0_11⟩ := F0.out
      obtain ⟨m0, m1, m2, m3⟩ := F1.out
      obtain ⟨wd, hwd⟩ : ∃ wd, wd = wc := ⟨_, rfl⟩
      subst hwd
      go_upto_region 6 with fail
      go_cut [11] (fun t wx => ∃ b g2, t = .pointer (some ⟨b, 0, none⟩) ∧ LW wx b a1.nx (.slice (some ⟨g2, 0, none⟩) a1.ps.length a1.ps.length) ∧ Ow wx w.heap.size g2 a1.ps.length a1.ps.length a1.ps ∧ HAt wx w.heap.size a0 ∧ LW wx (w.heap.size + 1) a1.nx (.slice p1 a1.ps.length n1) ∧ Below w.heap.size w wx ∧ NR wx b1 r)
      case first =>
        go_wp2_with (go_at_call 22; refine (toLedger_any a1.nx p1 n1 a1.ps hl _ ((HP.out.below FB.out (Nat.le_refl _)).mono FB.out.size)).mono ?_; rintro e w3 ⟨g2, rfl, ho, hb⟩; have Gg2 : Hid (Ow w3 w.heap.size g2 a1.ps.length a1.ps.length a1.ps) := ho.base FB.out.size; have F0 : Hid (HAt w3 w.heap.size a0) := F0.out.below hb F0.out.lt; have F1 : Hid (LW w3 (w.heap.size + 1) a1.nx (.slice p1 a1.ps.length n1)) := F1.out.below hb F1.out.lt; have FB : Hid (Below w.heap.size w w3) := FB.out.trans (hb.mono FB.out.size); have FR1 : Hid (NR w3 b1 r) := FR1.out.below hb FR1.out.lt; clear hb ho; obtain ⟨x0_0, x0_1, x0_2, x0_3, x0_4, x0_5, x0_6, x0_7, x0_8, x0_9, x0_10, x0_11⟩ := F0.out; obtain ⟨m0, m1, m2, m3⟩ := F1.out)
        go_meet
        case rel => exact ⟨w3.heap.size, g2, rfl, LW.at_ w3 _ _ _ _ rfl, Gg2.out.alloc _, F0.out.alloc _, F1.out.alloc _, FB.out.alloc FB.out.size _, FR1.out.alloc _⟩
      case rest =>
        obtain ⟨b, g2, rfl, hcut'⟩ := hcut
        obtain ⟨hFX, hGg2, hF0, hF1, hFB, hFR1⟩ := hcut'
        have FX : Hid (LW wc b a1.nx (.slice (some ⟨g2, 0, none⟩) a1.ps.length a1.ps.length)) := hFX
        have Gg2 : Hid (Ow wc w.heap.size g2 a1.ps.length a1.ps.length a1.ps) := hGg2
        have F0 : Hid (HAt wc w.heap.size a0) := hF0
        have F1 : Hid (LW wc (w.heap.size + 1) a1.nx (.slice p1 a1.ps.length n1)) := hF1
        have FB : Hid (Below w.heap.size w wc) := hFB
        have FR1 : Hid (NR wc b1 r) := hFR1
        clear hFX hGg2 hF0 hF1 hFB hFR1
        obtain ⟨x0_0, x0_1, x0_2, x0_3, x0_4, x0_5, x0_6, x0_7, x0_8, x0_9, x0_10, x0_11⟩ := F0.out
        obtain ⟨m0, m1, m2, m3⟩ := F1.out
        obtain ⟨o0, o1, o2, o3⟩ := FX.out
        obtain ⟨we, hwe⟩ : ∃ we, we = wc := ⟨_, rfl⟩
        subst hwe
        go_upto_region 7 with fail
        go_cut [12] (fun t wx => ∃ b2, t = .pointer (some ⟨b2, 0, none⟩) ∧ HAt wx w.heap.size a0 ∧ LW wx (w.heap.size + 1) a1.nx (.slice p1 a1.ps.length n1) ∧ Below w.heap.size w wx ∧ NR wx b1 r ∧ LW wx b a1.nx (.slice (some ⟨g2, 0, none⟩) a1.ps.length a1.ps.length) ∧ Ow wx w.heap.size g2 a1.ps.length a1.ps.length a1.ps ∧ NR wx b2 r)
        case first =>
          have F0 : Hid (HAt we.drew w.heap.size a0) := F0.out.below (Below.refl _ _).drew F0.out.lt
          have F1 : Hid (LW we.drew (w.heap.size + 1) a1.nx (.slice p1 a1.ps.length n1)) := F1.out.below (Below.refl _ _).drew F1.out.lt
          have FB : Hid (Below w.heap.size w we.drew) := FB.out.drew
          have FR1 : Hid (NR we.drew b1 r) := FR1.out.below (Below.refl _ _).drew FR1.out.lt
          have FX : Hid (LW we.drew b a1.nx (.slice (some ⟨g2, 0, none⟩) a1.ps.length a1.ps.length)) := FX.out.below (Below.refl _ _).drew FX.out.lt
          have Gg2 : Hid (Ow we.drew w.heap.size g2 a1.ps.length a1.ps.length a1.ps) := Gg2.out.below (Below.refl _ _).drew Gg2.out.lt
          obtain ⟨x0_0, x0_1, x0_2, x0_3, x0_4, x0_5, x0_6, x0_7, x0_8, x0_9, x0_10, x0_11⟩ := F0.out
          have m0 := F1.out.c0
          have m1 := F1.out.c1
          have o0 := FX.out.c0
          have o1 := FX.out.c1
          refine wp_region_held_drew (S := (fun w'' => w''.cell? ⟨w.heap.size, 0, none⟩ = some (.int .i64 a0.fl) ∧ w''.cell? ⟨w.heap.size, 1, none⟩ = some (.int .i64 a0.gp) ∧ w''.cell? ⟨w.heap.size, 2, none⟩ = some (.int .i64 a0.ln) ∧ w''.cell? ⟨w.heap.size, 3, none⟩ = some (.int .i64 a0.rf) ∧ w''.cell? ⟨w.heap.size, 4, none⟩ = some (.int .i64 a0.sp) ∧ w''.cell? ⟨w.heap.size, 5, none⟩ = some (.int .i64 a0.pu) ∧ w''.cell? ⟨w.heap.size, 6, none⟩ = some (.int .i64 a0.br) ∧ w''.cell? ⟨w.heap.size, 7, none⟩ = some (.int .i64 a0.dr) ∧ w''.cell? ⟨w.heap.size, 8, none⟩ = some (.int .i64 a0.lv) ∧ w''.cell? ⟨w.heap.size, 9, none⟩ = some (.int .i64 a0.dO) ∧ w''.cell? ⟨w.heap.size, 10, none⟩ = some (.int .i64 a0.ld) ∧ w''.cell? ⟨w.heap.size, 11, none⟩ = some (.int .i64 a0.qu) ∧ w''.cell? ⟨w.heap.size + 1, 0, none⟩ = some (.int .i64 a1.nx) ∧ w''.cell? ⟨w.heap.size + 1, 1, none⟩ = some (.slice p1 a1.ps.length n1) ∧ w''.cell? ⟨b, 0, none⟩ = some (.int .i64 a1.nx) ∧ w''.cell? ⟨b, 1, none⟩ = some (.slice (some ⟨g2, 0, none⟩) a1.ps.length a1.ps.length))) (by kernel_rfl) (by (try dsimp only); first | exact ⟨x0_0, x0_1, x0_2, x0_3, x0_4, x0_5, x0_6, x0_7, x0_8, x0_9, x0_10, x0_11, m0, m1, o0, o1⟩ | go_keep) (fun hHeld => ?_)
          obtain ⟨v_19, hw1⟩ : ∃ v_19, v_19 = we.drew := ⟨_, rfl⟩
          have F0 : Hid (HAt v_19 w.heap.size a0) := by rw [hw1]; exact F0.out
          have F1 : Hid (LW v_19 (w.heap.size + 1) a1.nx (.slice p1 a1.ps.length n1)) := by rw [hw1]; exact F1.out
          have FB : Hid (Below w.heap.size w v_19) := by rw [hw1]; exact FB.out
          have FR1 : Hid (NR v_19 b1 r) := by rw [hw1]; exact FR1.out
          have FX : Hid (LW v_19 b a1.nx (.slice (some ⟨g2, 0, none⟩) a1.ps.length a1.ps.length)) := by rw [hw1]; exact FX.out
          have Gg2 : Hid (Ow v_19 w.heap.size g2 a1.ps.length a1.ps.length a1.ps) := by rw [hw1]; exact Gg2.out
          rw [← hw1] at hHeld ⊢
          clear hw1
          obtain ⟨x0_0, x0_1, x0_2, x0_3, x0_4, x0_5, x0_6, x0_7, x0_8, x0_9, x0_10, x0_11⟩ := F0.out
          have m0 := F1.out.c0
          have m1 := F1.out.c1
          have o0 := FX.out.c0
          have o1 := FX.out.c1
          refine wpAnyH_take (i := 0) (v := _) rfl (by kernel_rfl) (by kernel_rfl) (by kernel_rfl) (fun _ _ _ h => h) (Or.inl ⟨by kernel_rfl, by (intro wx hSw; (try dsimp only at hSw); go_simp <;> with_reducible rfl)⟩) (by assumption) ?_
          try simp only [Act.put, List.getElem_toArray, List.getElem_cons_succ, List.getElem_cons_zero, List.setIfInBounds_toArray, List.set_cons_zero, List.set_cons_succ]
          refine wpAnyH_take (i := 2) (v := _) rfl (by kernel_rfl) (by kernel_rfl) (by kernel_rfl) (fun _ _ _ h => h) (Or.inl ⟨by kernel_rfl, by (intro wx hSw; (try dsimp only at hSw); go_simp <;> with_reducible rfl)⟩) (by assumption) ?_
          try simp only [Act.put, List.getElem_toArray, List.getElem_cons_succ, List.getElem_cons_zero, List.setIfInBounds_toArray, List.set_cons_zero, List.set_cons_succ]
          refine wpAnyH_take (i := 3) (v := _) rfl (by kernel_rfl) (by kernel_rfl) (by kernel_rfl) (fun _ _ _ h => h) (Or.inl ⟨by kernel_rfl, by (intro wx hSw; (try dsimp only at hSw); go_simp <;> with_reducible rfl)⟩) (by assumption) ?_
          try simp only [Act.put, List.getElem_toArray, List.getElem_cons_succ, List.getElem_cons_zero, List.setIfInBounds_toArray, List.set_cons_zero, List.set_cons_succ]
          refine wpAnyH_take (i := 4) (v := _) rfl (by kernel_rfl) (by kernel_rfl) (by kernel_rfl) (fun _ _ _ h => h) (Or.inl ⟨by kernel_rfl, by (intro wx hSw; (try dsimp only at hSw); go_simp <;> with_reducible rfl)⟩) (by assumption) ?_
          try simp only [Act.put, List.getElem_toArray, List.getElem_cons_succ, List.getElem_cons_zero, List.setIfInBounds_toArray, List.set_cons_zero, List.set_cons_succ]
          refine wpAnyH_ready (rs := [1, 6]) (by kernel_rfl) (by simp) ?_
          refine (AllReadyH.cons rfl (fun K hK => ?_) (AllReadyH.cons rfl (fun K hK => ?_) AllReadyH.nil))
          · go_simp
            refine (toHouse_any a0 _).mono ?_
            rintro e v_20 ⟨rfl, hb⟩
            have F0 : Hid (HAt v_20 w.heap.size a0) := F0.out.below hb F0.out.lt
            have F1 : Hid (LW v_20 (w.heap.size + 1) a1.nx (.slice p1 a1.ps.length n1)) := F1.out.below hb F1.out.lt
            have FB : Hid (Below w.heap.size w v_20) := FB.out.trans (hb.mono FB.out.size)
            have FR1 : Hid (NR v_20 b1 r) := FR1.out.below hb FR1.out.lt
            have FX : Hid (LW v_20 b a1.nx (.slice (some ⟨g2, 0, none⟩) a1.ps.length a1.ps.length)) := FX.out.below hb FX.out.lt
            have Gg2 : Hid (Ow v_20 w.heap.size g2 a1.ps.length a1.ps.length a1.ps) := Gg2.out.below hb Gg2.out.lt
            clear hb
            obtain ⟨x0_0, x0_1, x0_2, x0_3, x0_4, x0_5, x0_6, x0_7, x0_8, x0_9, x0_10, x0_11⟩ := F0.out
            have m0 := F1.out.c0
            have m1 := F1.out.c1
            have o0 := FX.out.c0
            have o1 := FX.out.c1
            try dsimp only
            refine hK.out _ _ (by (try dsimp only); first | exact ⟨x0_0, x0_1, x0_2, x0_3, x0_4, x0_5, x0_6, x0_7, x0_8, x0_9, x0_10, x0_11, m0, m1, o0, o1⟩ | go_keep) (fun hHeld => ?_)
            clear hK K
            try simp only [Act.put, List.getElem_toArray, List.getElem_cons_succ, List.getElem_cons_zero, List.setIfInBounds_toArray, List.set_cons_zero, List.set_cons_succ]
            refine wpAnyH_ready (rs := [5, 6]) (by kernel_rfl) (by simp) ?_
            refine (AllReadyH.cons rfl (fun K hK => ?_) (AllReadyH.cons rfl (fun K hK => ?_) AllReadyH.nil))
            · go_simp
              refine (CI w.heap.size g2 _ Gg2.out).mono ?_
              rintro e v_21 ⟨rfl, hb⟩
              have F0 : Hid (HAt v_21 w.heap.size a0) := F0.out.below hb F0.out.lt
              have F1 : Hid (LW v_21 (w.heap.size + 1) a1.nx (.slice p1 a1.ps.length n1)) := F1.out.below hb F1.out.lt
              have FB : Hid (Below w.heap.size w v_21) := FB.out.trans (hb.mono FB.out.size)
              have FR1 : Hid (NR v_21 b1 r) := FR1.out.below hb FR1.out.lt
              have FX : Hid (LW v_21 b a1.nx (.slice (some ⟨g2, 0, none⟩) a1.ps.length a1.ps.length)) := FX.out.below hb FX.out.lt
              have Gg2 : Hid (Ow v_21 w.heap.size g2 a1.ps.length a1.ps.length a1.ps) := Gg2.out.below hb Gg2.out.lt
              clear hb
              obtain ⟨x0_0, x0_1, x0_2, x0_3, x0_4, x0_5, x0_6, x0_7, x0_8, x0_9, x0_10, x0_11⟩ := F0.out
              have m0 := F1.out.c0
              have m1 := F1.out.c1
              have o0 := FX.out.c0
              have o1 := FX.out.c1
              try dsimp only
              refine hK.out _ _ (by (try dsimp only); first | exact ⟨x0_0, x0_1, x0_2, x0_3, x0_4, x0_5, x0_6, x0_7, x0_8, x0_9, x0_10, x0_11, m0, m1, o0, o1⟩ | go_keep) (fun hHeld => ?_)
              clear hK K
              try simp only [Act.put, List.getElem_toArray, List.getElem_cons_succ, List.getElem_cons_zero, List.setIfInBounds_toArray, List.set_cons_zero, List.set_cons_succ]
              refine wpAnyH_ready (rs := [6]) (by kernel_rfl) (by simp) ?_
              refine (AllReadyH.cons rfl (fun K hK => ?_) AllReadyH.nil)
              go_simp
              obtain ⟨b2, hbb⟩ : ∃ b2, b2 = v_21.heap.size := ⟨_, rfl⟩
              obtain ⟨v_22, hw2⟩ : ∃ v_22, v_22 = v_21.alloc (.cells #[.int .i64 0, .int .i64 0, .int .i64 0] 32) := ⟨_, rfl⟩
              have nb2_0 := F0.out.lt
              rw [← hbb] at nb2_0
              have nb2_1 := F1.out.lt
              rw [← hbb] at nb2_1
              have nb2_3 := FR1.out.lt
              rw [← hbb] at nb2_3
              have nb2_4 := FX.out.lt
              rw [← hbb] at nb2_4
              have nb2_5 := Gg2.out.lt
              rw [← hbb] at nb2_5
              have FZ : Hid (R3 v_22 b2) := by rw [hw2]; exact R3.at_ _ _ _ hbb
              have F0 : Hid (HAt v_22 w.heap.size a0) := by rw [hw2]; exact F0.out.alloc _
              have F1 : Hid (LW v_22 (w.heap.size + 1) a1.nx (.slice p1 a1.ps.length n1)) := by rw [hw2]; exact F1.out.alloc _
              have FB : Hid (Below w.heap.size w v_22) := by rw [hw2]; exact FB.out.alloc FB.out.size _
              have FR1 : Hid (NR v_22 b1 r) := by rw [hw2]; exact FR1.out.alloc _
              have FX : Hid (LW v_22 b a1.nx (.slice (some ⟨g2, 0, none⟩) a1.ps.length a1.ps.length)) := by rw [hw2]; exact FX.out.alloc _
              have Gg2 : Hid (Ow v_22 w.heap.size g2 a1.ps.length a1.ps.length a1.ps) := by rw [hw2]; exact Gg2.out.alloc _
              rw [← hw2, ← hbb]
              clear hbb hw2
              obtain ⟨x0_0, x0_1, x0_2, x0_3, x0_4, x0_5, x0_6, x0_7, x0_8, x0_9, x0_10, x0_11⟩ := F0.out
              have m0 := F1.out.c0
              have m1 := F1.out.c1
              have o0 := FX.out.c0
              have o1 := FX.out.c1
              refine hK.out _ _ (by (try dsimp only); first | exact ⟨x0_0, x0_1, x0_2, x0_3, x0_4, x0_5, x0_6, x0_7, x0_8, x0_9, x0_10, x0_11, m0, m1, o0, o1⟩ | go_keep) (fun hHeld => ?_)
              clear hK K
              try simp only [Act.put, List.getElem_toArray, List.getElem_cons_succ, List.getElem_cons_zero, List.setIfInBounds_toArray, List.set_cons_zero, List.set_cons_succ]
              refine wpAnyH_ready (rs := [7]) (by kernel_rfl) (by simp) ?_
              refine (AllReadyH.cons rfl (fun K hK => ?_) AllReadyH.nil)
              obtain ⟨z0, z1, z2, z3, z4, z5⟩ := FZ.out
              go_simp
              obtain ⟨v_23, hw2⟩ : ∃ v_23, v_23 = putN v_22 b2 r := ⟨_, rfl⟩
              change K _ (putN v_22 b2 r)
              rw [← hw2]
              clear z0 z1 z2 z3 z4 z5
              have F0 : Hid (HAt v_23 w.heap.size a0) := by rw [hw2]; exact F0.out.below (below_putN (Below.refl _ _) (Nat.le_refl _) _) (by omega)
              have F1 : Hid (LW v_23 (w.heap.size + 1) a1.nx (.slice p1 a1.ps.length n1)) := by rw [hw2]; exact F1.out.below (below_putN (Below.refl _ _) (Nat.le_refl _) _) (by omega)
              have FB : Hid (Below w.heap.size w v_23) := by rw [hw2]; exact below_putN FB.out (by omega) _
              have FR1 : Hid (NR v_23 b1 r) := by rw [hw2]; exact FR1.out.below (below_putN (Below.refl _ _) (Nat.le_refl _) _) (by omega)
              have FX : Hid (LW v_23 b a1.nx (.slice (some ⟨g2, 0, none⟩) a1.ps.length a1.ps.length)) := by rw [hw2]; exact FX.out.below (below_putN (Below.refl _ _) (Nat.le_refl _) _) (by omega)
              have Gg2 : Hid (Ow v_23 w.heap.size g2 a1.ps.length a1.ps.length a1.ps) := by rw [hw2]; exact Gg2.out.putN (by omega) _
              have FZ : Hid (NR v_23 b2 r) := by rw [hw2]; exact FZ.out.putN _
              clear hw2
              obtain ⟨x0_0, x0_1, x0_2, x0_3, x0_4, x0_5, x0_6, x0_7, x0_8, x0_9, x0_10, x0_11⟩ := F0.out
              have m0 := F1.out.c0
              have m1 := F1.out.c1
              have o0 := FX.out.c0
              have o1 := FX.out.c1
              refine hK.out _ _ (by (try dsimp only); first | exact ⟨x0_0, x0_1, x0_2, x0_3, x0_4, x0_5, x0_6, x0_7, x0_8, x0_9, x0_10, x0_11, m0, m1, o0, o1⟩ | go_keep) (fun hHeld => ?_)
              clear hK K
              try simp only [Act.put, List.getElem_toArray, List.getElem_cons_succ, List.getElem_cons_zero, List.setIfInBounds_toArray, List.set_cons_zero, List.set_cons_succ]
              refine wpAnyH_done (by kernel_rfl) ?_ _
              go_wp2_with fail
              go_meet
              case rel => exact ⟨b2, rfl, F0.out, F1.out, FB.out, FR1.out, FX.out, Gg2.out, FZ.out⟩
            · go_simp
              obtain ⟨b2, hbb⟩ : ∃ b2, b2 = v_20.heap.size := ⟨_, rfl⟩
              obtain ⟨v_24, hw2⟩ : ∃ v_24, v_24 = v_20.alloc (.cells #[.int .i64 0, .int .i64 0, .int .i64 0] 32) := ⟨_, rfl⟩
              have nb2_0 := F0.out.lt
              rw [← hbb] at nb2_0
              have nb2_1 := F1.out.lt
              rw [← hbb] at nb2_1
              have nb2_3 := FR1.out.lt
              rw [← hbb] at nb2_3
              have nb2_4 := FX.out.lt
              rw [← hbb] at nb2_4
              have nb2_5 := Gg2.out.lt
              rw [← hbb] at nb2_5
              have FZ : Hid (R3 v_24 b2) := by rw [hw2]; exact R3.at_ _ _ _ hbb
              have F0 : Hid (HAt v_24 w.heap.size a0) := by rw [hw2]; exact F0.out.alloc _
              have F1 : Hid (LW v_24 (w.heap.size + 1) a1.nx (.slice p1 a1.ps.length n1)) := by rw [hw2]; exact F1.out.alloc _
              have FB : Hid (Below w.heap.size w v_24) := by rw [hw2]; exact FB.out.alloc FB.out.size _
              have FR1 : Hid (NR v_24 b1 r) := by rw [hw2]; exact FR1.out.alloc _
              have FX : Hid (LW v_24 b a1.nx (.slice (some ⟨g2, 0, none⟩) a1.ps.length a1.ps.length)) := by rw [hw2]; exact FX.out.alloc _
              have Gg2 : Hid (Ow v_24 w.heap.size g2 a1.ps.length a1.ps.length a1.ps) := by rw [hw2]; exact Gg2.out.alloc _
              rw [← hw2, ← hbb]
              clear hbb hw2
              obtain ⟨x0_0, x0_1, x0_2, x0_3, x0_4, x0_5, x0_6, x0_7, x0_8, x0_9, x0_10, x0_11⟩ := F0.out
              have m0 := F1.out.c0
              have m1 := F1.out.c1
              have o0 := FX.out.c0
              have o1 := FX.out.c1
              refine hK.out _ _ (by (try dsimp only); first | exact ⟨x0_0, x0_1, x0_2, x0_3, x0_4, x0_5, x0_6, x0_7, x0_8, x0_9, x0_10, x0_11, m0, m1, o0, o1⟩ | go_keep) (fun hHeld => ?_)
              clear hK K
              try simp only [Act.put, List.getElem_toArray, List.getElem_cons_succ, List.getElem_cons_zero, List.setIfInBounds_toArray, List.set_cons_zero, List.set_cons_succ]
              refine wpAnyH_ready (rs := [5]) (by kernel_rfl) (by simp) ?_
              refine (AllReadyH.cons rfl (fun K hK => ?_) AllReadyH.nil)
              go_simp
              refine (CI w.heap.size g2 _ Gg2.out).mono ?_
              rintro e v_25 ⟨rfl, hb⟩
              have F0 : Hid (HAt v_25 w.heap.size a0) := F0.out.below hb F0.out.lt
              have F1 : Hid (LW v_25 (w.heap.size + 1) a1.nx (.slice p1 a1.ps.length n1)) := F1.out.below hb F1.out.lt
              have FB : Hid (Below w.heap.size w v_25) := FB.out.trans (hb.mono FB.out.size)
              have FR1 : Hid (NR v_25 b1 r) := FR1.out.below hb FR1.out.lt
              have FX : Hid (LW v_25 b a1.nx (.slice (some ⟨g2, 0, none⟩) a1.ps.length a1.ps.length)) := FX.out.below hb FX.out.lt
              have Gg2 : Hid (Ow v_25 w.heap.size g2 a1.ps.length a1.ps.length a1.ps) := Gg2.out.below hb Gg2.out.lt
              have FZ : Hid (R3 v_25 b2) := FZ.out.below hb FZ.out.lt
              clear hb
              obtain ⟨x0_0, x0_1, x0_2, x0_3, x0_4, x0_5, x0_6, x0_7, x0_8, x0_9, x0_10, x0_11⟩ := F0.out
              have m0 := F1.out.c0
              have m1 := F1.out.c1
              have o0 := FX.out.c0
              have o1 := FX.out.c1
              try dsimp only
              refine hK.out _ _ (by (try dsimp only); first | exact ⟨x0_0, x0_1, x0_2, x0_3, x0_4, x0_5, x0_6, x0_7, x0_8, x0_9, x0_10, x0_11, m0, m1, o0, o1⟩ | go_keep) (fun hHeld => ?_)
              clear hK K
              try simp only [Act.put, List.getElem_toArray, List.getElem_cons_succ, List.getElem_cons_zero, List.setIfInBounds_toArray, List.set_cons_zero, List.set_cons_succ]
              refine wpAnyH_ready (rs := [7]) (by kernel_rfl) (by simp) ?_
              refine (AllReadyH.cons rfl (fun K hK => ?_) AllReadyH.nil)
              obtain ⟨z0, z1, z2, z3, z4, z5⟩ := FZ.out
              go_simp
              obtain ⟨v_26, hw2⟩ : ∃ v_26, v_26 = putN v_25 b2 r := ⟨_, rfl⟩
              change K _ (putN v_25 b2 r)
              rw [← hw2]
              clear z0 z1 z2 z3 z4 z5
              have F0 : Hid (HAt v_26 w.heap.size a0) := by rw [hw2]; exact F0.out.below (below_putN (Below.refl _ _) (Nat.le_refl _) _) (by omega)
              have F1 : Hid (LW v_26 (w.heap.size + 1) a1.nx (.slice p1 a1.ps.length n1)) := by rw [hw2]; exact F1.out.below (below_putN (Below.refl _ _) (Nat.le_refl _) _) (by omega)
              have FB : Hid (Below w.heap.size w v_26) := by rw [hw2]; exact below_putN FB.out (by omega) _
              have FR1 : Hid (NR v_26 b1 r) := by rw [hw2]; exact FR1.out.below (below_putN (Below.refl _ _) (Nat.le_refl _) _) (by omega)
              have FX : Hid (LW v_26 b a1.nx (.slice (some ⟨g2, 0, none⟩) a1.ps.length a1.ps.length)) := by rw [hw2]; exact FX.out.below (below_putN (Below.refl _ _) (Nat.le_refl _) _) (by omega)
              have Gg2 : Hid (Ow v_26 w.heap.size g2 a1.ps.length a1.ps.length a1.ps) := by rw [hw2]; exact Gg2.out.putN (by omega) _
              have FZ : Hid (NR v_26 b2 r) := by rw [hw2]; exact FZ.out.putN _
              clear hw2
              obtain ⟨x0_0, x0_1, x0_2, x0_3, x0_4, x0_5, x0_6, x0_7, x0_8, x0_9, x0_10, x0_11⟩ := F0.out
              have m0 := F1.out.c0
              have m1 := F1.out.c1
              have o0 := FX.out.c0
              have o1 := FX.out.c1
              refine hK.out _ _ (by (try dsimp only); first | exact ⟨x0_0, x0_1, x0_2, x0_3, x0_4, x0_5, x0_6, x0_7, x0_8, x0_9, x0_10, x0_11, m0, m1, o0, o1⟩ | go_keep) (fun hHeld => ?_)
              clear hK K
              try simp only [Act.put, List.getElem_toArray, List.getElem_cons_succ, List.getElem_cons_zero, List.setIfInBounds_toArray, List.set_cons_zero, List.set_cons_succ]
              refine wpAnyH_done (by kernel_rfl) ?_ _
              go_wp2_with fail
              go_meet
              case rel => exact ⟨b2, rfl, F0.out, F1.out, FB.out, FR1.out, FX.out, Gg2.out, FZ.out⟩
          · go_simp
            obtain ⟨b2, hbb⟩ : ∃ b2, b2 = v_19.heap.size := ⟨_, rfl⟩
            obtain ⟨v_27, hw2⟩ : ∃ v_27, v_27 = v_19.alloc (.cells #[.int .i64 0, .int .i64 0, .int .i64 0] 32) := ⟨_, rfl⟩
            have nb2_0 := F0.out.lt
            rw [← hbb] at nb2_0
            have nb2_1 := F1.out.lt
            rw [← hbb] at nb2_1
            have nb2_3 := FR1.out.lt
            rw [← hbb] at nb2_3
            have nb2_4 := FX.out.lt
            rw [← hbb] at nb2_4
            have nb2_5 := Gg2.out.lt
            rw [← hbb] at nb2_5
            have FZ : Hid (R3 v_27 b2) := by rw [hw2]; exact R3.at_ _ _ _ hbb
            have F0 : Hid (HAt v_27 w.heap.size a0) := by rw [hw2]; exact F0.out.alloc _
            have F1 : Hid (LW v_27 (w.heap.size + 1) a1.nx (.slice p1 a1.ps.length n1)) := by rw [hw2]; exact F1.out.alloc _
            have FB : Hid (Below w.heap.size w v_27) := by rw [hw2]; exact FB.out.alloc FB.out.size _
            have FR1 : Hid (NR v_27 b1 r) := by rw [hw2]; exact FR1.out.alloc _
            have FX : Hid (LW v_27 b a1.nx (.slice (some ⟨g2, 0, none⟩) a1.ps.length a1.ps.length)) := by rw [hw2]; exact FX.out.alloc _
            have Gg2 : Hid (Ow v_27 w.heap.size g2 a1.ps.length a1.ps.length a1.ps) := by rw [hw2]; exact Gg2.out.alloc _
            rw [← hw2, ← hbb]
            clear hbb hw2
            obtain ⟨x0_0, x0_1, x0_2, x0_3, x0_4, x0_5, x0_6, x0_7, x0_8, x0_9, x0_10, x0_11⟩ := F0.out
            have m0 := F1.out.c0
            have m1 := F1.out.c1
            have o0 := FX.out.c0
            have o1 := FX.out.c1
            refine hK.out _ _ (by (try dsimp only); first | exact ⟨x0_0, x0_1, x0_2, x0_3, x0_4, x0_5, x0_6, x0_7, x0_8, x0_9, x0_10, x0_11, m0, m1, o0, o1⟩ | go_keep) (fun hHeld => ?_)
            clear hK K
            try simp only [Act.put, List.getElem_toArray, List.getElem_cons_succ, List.getElem_cons_zero, List.setIfInBounds_toArray, List.set_cons_zero, List.set_cons_succ]
            refine wpAnyH_ready (rs := [1]) (by kernel_rfl) (by simp) ?_
            refine (AllReadyH.cons rfl (fun K hK => ?_) AllReadyH.nil)
            go_simp
            refine (toHouse_any a0 _).mono ?_
            rintro e v_28 ⟨rfl, hb⟩
            have F0 : Hid (HAt v_28 w.heap.size a0) := F0.out.below hb F0.out.lt
            have F1 : Hid (LW v_28 (w.heap.size + 1) a1.nx (.slice p1 a1.ps.length n1)) := F1.out.below hb F1.out.lt
            have FB : Hid (Below w.heap.size w v_28) := FB.out.trans (hb.mono FB.out.size)
            have FR1 : Hid (NR v_28 b1 r) := FR1.out.below hb FR1.out.lt
            have FX : Hid (LW v_28 b a1.nx (.slice (some ⟨g2, 0, none⟩) a1.ps.length a1.ps.length)) := FX.out.below hb FX.out.lt
            have Gg2 : Hid (Ow v_28 w.heap.size g2 a1.ps.length a1.ps.length a1.ps) := Gg2.out.below hb Gg2.out.lt
            have FZ : Hid (R3 v_28 b2) := FZ.out.below hb FZ.out.lt
            clear hb
            obtain ⟨x0_0, x0_1, x0_2, x0_3, x0_4, x0_5, x0_6, x0_7, x0_8, x0_9, x0_10, x0_11⟩ := F0.out
            have m0 := F1.out.c0
            have m1 := F1.out.c1
            have o0 := FX.out.c0
            have o1 := FX.out.c1
            try dsimp only
            refine hK.out _ _ (by (try dsimp only); first | exact ⟨x0_0, x0_1, x0_2, x0_3, x0_4, x0_5, x0_6, x0_7, x0_8, x0_9, x0_10, x0_11, m0, m1, o0, o1⟩ | go_keep) (fun hHeld => ?_)
            clear hK K
            try simp only [Act.put, List.getElem_toArray, List.getElem_cons_succ, List.getElem_cons_zero, List.setIfInBounds_toArray, List.set_cons_zero, List.set_cons_succ]
            refine wpAnyH_ready (rs := [5]) (by kernel_rfl) (by simp) ?_
            refine (AllReadyH.cons rfl (fun K hK => ?_) AllReadyH.nil)
            go_simp
            refine (CI w.heap.size g2 _ Gg2.out).mono ?_
            rintro e v_29 ⟨rfl, hb⟩
            have F0 : Hid (HAt v_29 w.heap.size a0) := F0.out.below hb F0.out.lt
            have F1 : Hid (LW v_29 (w.heap.size + 1) a1.nx (.slice p1 a1.ps.length n1)) := F1.out.below hb F1.out.lt
            have FB : Hid (Below w.heap.size w v_29) := FB.out.trans (hb.mono FB.out.size)
            have FR1 : Hid (NR v_29 b1 r) := FR1.out.below hb FR1.out.lt
            have FX : Hid (LW v_29 b a1.nx (.slice (some ⟨g2, 0, none⟩) a1.ps.length a1.ps.length)) := FX.out.below hb FX.out.lt
            have Gg2 : Hid (Ow v_29 w.heap.size g2 a1.ps.length a1.ps.length a1.ps) := Gg2.out.below hb Gg2.out.lt
            have FZ : Hid (R3 v_29 b2) := FZ.out.below hb FZ.out.lt
            clear hb
            obtain ⟨x0_0, x0_1, x0_2, x0_3, x0_4, x0_5, x0_6, x0_7, x0_8, x0_9, x0_10, x0_11⟩ := F0.out
            have m0 := F1.out.c0
            have m1 := F1.out.c1
            have o0 := FX.out.c0
            have o1 := FX.out.c1
            try dsimp only
            refine hK.out _ _ (by (try dsimp only); first | exact ⟨x0_0, x0_1, x0_2, x0_3, x0_4, x0_5, x0_6, x0_7, x0_8, x0_9, x0_10, x0_11, m0, m1, o0, o1⟩ | go_keep) (fun hHeld => ?_)
            clear hK K
            try simp only [Act.put, List.getElem_toArray, List.getElem_cons_succ, List.getElem_cons_zero, List.setIfInBounds_toArray, List.set_cons_zero, List.set_cons_succ]
            refine wpAnyH_ready (rs := [7]) (by kernel_rfl) (by simp) ?_
            refine (AllReadyH.cons rfl (fun K hK => ?_) AllReadyH.nil)
            obtain ⟨z0, z1, z2, z3, z4, z5⟩ := FZ.out
            go_simp
            obtain ⟨v_30, hw2⟩ : ∃ v_30, v_30 = putN v_29 b2 r := ⟨_, rfl⟩
            change K _ (putN v_29 b2 r)
            rw [← hw2]
            clear z0 z1 z2 z3 z4 z5
            have F0 : Hid (HAt v_30 w.heap.size a0) := by rw [hw2]; exact F0.out.below (below_putN (Below.refl _ _) (Nat.le_refl _) _) (by omega)
            have F1 : Hid (LW v_30 (w.heap.size + 1) a1.nx (.slice p1 a1.ps.length n1)) := by rw [hw2]; exact F1.out.below (below_putN (Below.refl _ _) (Nat.le_refl _) _) (by omega)
            have FB : Hid (Below w.heap.size w v_30) := by rw [hw2]; exact below_putN FB.out (by omega) _
            have FR1 : Hid (NR v_30 b1 r) := by rw [hw2]; exact FR1.out.below (below_putN (Below.refl _ _) (Nat.le_refl _) _) (by omega)
            have FX : Hid (LW v_30 b a1.nx (.slice (some ⟨g2, 0, none⟩) a1.ps.length a1.ps.length)) := by rw [hw2]; exact FX.out.below (below_putN (Below.refl _ _) (Nat.le_refl _) _) (by omega)
            have Gg2 : Hid (Ow v_30 w.heap.size g2 a1.ps.length a1.ps.length a1.ps) := by rw [hw2]; exact Gg2.out.putN (by omega) _
            have FZ : Hid (NR v_30 b2 r) := by rw [hw2]; exact FZ.out.putN _
            clear hw2
            obtain ⟨x0_0, x0_1, x0_2, x0_3, x0_4, x0_5, x0_6, x0_7, x0_8, x0_9, x0_10, x0_11⟩ := F0.out
            have m0 := F1.out.c0
            have m1 := F1.out.c1
            have o0 := FX.out.c0
            have o1 := FX.out.c1
            refine hK.out _ _ (by (try dsimp only); first | exact ⟨x0_0, x0_1, x0_2, x0_3, x0_4, x0_5, x0_6, x0_7, x0_8, x0_9, x0_10, x0_11, m0, m1, o0, o1⟩ | go_keep) (fun hHeld => ?_)
            clear hK K
            try simp only [Act.put, List.getElem_toArray, List.getElem_cons_succ, List.getElem_cons_zero, List.setIfInBounds_toArray, List.set_cons_zero, List.set_cons_succ]
            refine wpAnyH_done (by kernel_rfl) ?_ _
            go_wp2_with fail
            go_meet
            case rel => exact ⟨b2, rfl, F0.out, F1.out, FB.out, FR1.out, FX.out, Gg2.out, FZ.out⟩
        case rest =>
          obtain ⟨b2, rfl, hcut'⟩ := hcut
          obtain ⟨hF0, hF1, hFB, hFR1, hFX, hGg2, hFR2⟩ := hcut'
          have F0 : Hid (HAt wc w.heap.size a0) := hF0
          have F1 : Hid (LW wc (w.heap.size + 1) a1.nx (.slice p1 a1.ps.length n1)) := hF1
          have FB : Hid (Below w.heap.size w wc) := hFB
          have FR1 : Hid (NR wc b1 r) := hFR1
          have FX : Hid (LW wc b a1.nx (.slice (some ⟨g2, 0, none⟩) a1.ps.length a1.ps.length)) := hFX
          have Gg2 : Hid (Ow wc w.heap.size g2 a1.ps.length a1.ps.length a1.ps) := hGg2
          have FR2 : Hid (NR wc b2 r) := hFR2
          clear hF0 hF1 hFB hFR1 hFX hGg2 hFR2
          obtain ⟨x0_0, x0_1, x0_2, x0_3, x0_4, x0_5, x0_6, x0_7, x0_8, x0_9, x0_10, x0_11⟩ := F0.out
          obtain ⟨m0, m1, m2, m3⟩ := F1.out
          obtain ⟨o0, o1, o2, o3⟩ := FX.out
          obtain ⟨r1_0, r1_1, r1_2⟩ := FR1.out
          obtain ⟨r2_0, r2_1, r2_2⟩ := FR2.out
          go_wp2_with (go_at_call 33; refine (eqNeedResult_same r.1 r.2.1 r.2.2 _).mono ?_; rintro e w5 ⟨rfl, hb⟩; have F0 : Hid (HAt w5 w.heap.size a0) := F0.out.below hb F0.out.lt; have F1 : Hid (LW w5 (w.heap.size + 1) a1.nx (.slice p1 a1.ps.length n1)) := F1.out.below hb F1.out.lt; have FB : Hid (Below w.heap.size w w5) := FB.out.trans (hb.mono FB.out.size); have FR1 : Hid (NR w5 b1 r) := FR1.out.below hb FR1.out.lt; have FX : Hid (LW w5 b a1.nx (.slice (some ⟨g2, 0, none⟩) a1.ps.length a1.ps.length)) := FX.out.below hb FX.out.lt; have Gg2 : Hid (Ow w5 w.heap.size g2 a1.ps.length a1.ps.length a1.ps) := Gg2.out.below hb Gg2.out.lt; have FR2 : Hid (NR w5 b2 r) := FR2.out.below hb FR2.out.lt; clear hb; obtain ⟨x0_0, x0_1, x0_2, x0_3, x0_4, x0_5, x0_6, x0_7, x0_8, x0_9, x0_10, x0_11⟩ := F0.out; obtain ⟨m0, m1, m2, m3⟩ := F1.out; obtain ⟨o0, o1, o2, o3⟩ := FX.out)
          have F0 : Hid (HAt w5.drew w.heap.size a0) := F0.out.below (Below.refl _ _).drew F0.out.lt
          have F1 : Hid (LW w5.drew (w.heap.size + 1) a1.nx (.slice p1 a1.ps.length n1)) := F1.out.below (Below.refl _ _).drew F1.out.lt
          have FB : Hid (Below w.heap.size w w5.drew) := FB.out.drew
          have FX : Hid (LW w5.drew b a1.nx (.slice (some ⟨g2, 0, none⟩) a1.ps.length a1.ps.length)) := FX.out.below (Below.refl _ _).drew FX.out.lt
          have Gg2 : Hid (Ow w5.drew w.heap.size g2 a1.ps.length a1.ps.length a1.ps) := Gg2.out.below (Below.refl _ _).drew Gg2.out.lt
          obtain ⟨x0_0, x0_1, x0_2, x0_3, x0_4, x0_5, x0_6, x0_7, x0_8, x0_9, x0_10, x0_11⟩ := F0.out
          have m0 := F1.out.c0
          have m1 := F1.out.c1
          have o0 := FX.out.c0
          have o1 := FX.out.c1
          refine wp_region_held_drew (S := (fun w'' => w''.cell? ⟨w.heap.size, 0, none⟩ = some (.int .i64 a0.fl) ∧ w''.cell? ⟨w.heap.size, 1, none⟩ = some (.int .i64 a0.gp) ∧ w''.cell? ⟨w.heap.size, 2, none⟩ = some (.int .i64 a0.ln) ∧ w''.cell? ⟨w.heap.size, 3, none⟩ = some (.int .i64 a0.rf) ∧ w''.cell? ⟨w.heap.size, 4, none⟩ = some (.int .i64 a0.sp) ∧ w''.cell? ⟨w.heap.size, 5, none⟩ = some (.int .i64 a0.pu) ∧ w''.cell? ⟨w.heap.size, 6, none⟩ = some (.int .i64 a0.br) ∧ w''.cell? ⟨w.heap.size, 7, none⟩ = some (.int .i64 a0.dr) ∧ w''.cell? ⟨w.heap.size, 8, none⟩ = some (.int .i64 a0.lv) ∧ w''.cell? ⟨w.heap.size, 9, none⟩ = some (.int .i64 a0.dO) ∧ w''.cell? ⟨w.heap.size, 10, none⟩ = some (.int .i64 a0.ld) ∧ w''.cell? ⟨w.heap.size, 11, none⟩ = some (.int .i64 a0.qu) ∧ w''.cell? ⟨w.heap.size + 1, 0, none⟩ = some (.int .i64 a1.nx) ∧ w''.cell? ⟨w.heap.size + 1, 1, none⟩ = some (.slice p1 a1.ps.length n1) ∧ w''.cell? ⟨b, 0, none⟩ = some (.int .i64 a1.nx) ∧ w''.cell? ⟨b, 1, none⟩ = some (.slice (some ⟨g2, 0, none⟩) a1.ps.length a1.ps.length))) (by kernel_rfl) (by (try dsimp only); first | exact ⟨x0_0, x0_1, x0_2, x0_3, x0_4, x0_5, x0_6, x0_7, x0_8, x0_9, x0_10, x0_11, m0, m1, o0, o1⟩ | go_keep) (fun hHeld => ?_)
          obtain ⟨v_31, hw1⟩ : ∃ v_31, v_31 = w5.drew := ⟨_, rfl⟩
          have F0 : Hid (HAt v_31 w.heap.size a0) := by rw [hw1]; exact F0.out
          have F1 : Hid (LW v_31 (w.heap.size + 1) a1.nx (.slice p1 a1.ps.length n1)) := by rw [hw1]; exact F1.out
          have FB : Hid (Below w.heap.size w v_31) := by rw [hw1]; exact FB.out
          have FX : Hid (LW v_31 b a1.nx (.slice (some ⟨g2, 0, none⟩) a1.ps.length a1.ps.length)) := by rw [hw1]; exact FX.out
          have Gg2 : Hid (Ow v_31 w.heap.size g2 a1.ps.length a1.ps.length a1.ps) := by rw [hw1]; exact Gg2.out
          rw [← hw1] at hHeld ⊢
          clear hw1
          obtain ⟨x0_0, x0_1, x0_2, x0_3, x0_4, x0_5, x0_6, x0_7, x0_8, x0_9, x0_10, x0_11⟩ := F0.out
          have m0 := F1.out.c0
          have m1 := F1.out.c1
          have o0 := FX.out.c0
          have o1 := FX.out.c1
          refine wpAnyH_take (i := 0) (v := _) rfl (by kernel_rfl) (by kernel_rfl) (by kernel_rfl) (fun _ _ _ h => h) (Or.inl ⟨by kernel_rfl, by (intro wx hSw; (try dsimp only at hSw); go_simp <;> with_reducible rfl)⟩) (by assumption) ?_
          try simp only [Act.put, List.getElem_toArray, List.getElem_cons_succ, List.getElem_cons_zero, List.setIfInBounds_toArray, List.set_cons_zero, List.set_cons_succ]
          refine wpAnyH_take (i := 1) (v := _) rfl (by kernel_rfl) (by kernel_rfl) (by kernel_rfl) (fun _ _ _ h => h) (Or.inl ⟨by kernel_rfl, by (intro wx hSw; (try dsimp only at hSw); go_simp <;> with_reducible rfl)⟩) (by assumption) ?_
          try simp only [Act.put, List.getElem_toArray, List.getElem_cons_succ, List.getElem_cons_zero, List.setIfInBounds_toArray, List.set_cons_zero, List.set_cons_succ]
          refine wpAnyH_ready (rs := [2]) (by kernel_rfl) (by simp) ?_
          refine (AllReadyH.cons rfl (fun K hK => ?_) AllReadyH.nil)
          go_simp
          refine (toLedger_any a1.nx p1 n1 a1.ps hl _ ((HP.out.below FB.out (Nat.le_refl _)).mono FB.out.size)).mono ?_
          rintro e v_32 ⟨g3, rfl, ho, hb⟩
          have Gg3 : Hid (Ow v_32 w.heap.size g3 a1.ps.length a1.ps.length a1.ps) := ho.base FB.out.size
          have F0 : Hid (HAt v_32 w.heap.size a0) := F0.out.below hb F0.out.lt
          have F1 : Hid (LW v_32 (w.heap.size + 1) a1.nx (.slice p1 a1.ps.length n1)) := F1.out.below hb F1.out.lt
          have FB : Hid (Below w.heap.size w v_32) := FB.out.trans (hb.mono FB.out.size)
          have FX : Hid (LW v_32 b a1.nx (.slice (some ⟨g2, 0, none⟩) a1.ps.length a1.ps.length)) := FX.out.below hb FX.out.lt
          have Gg2 : Hid (Ow v_32 w.heap.size g2 a1.ps.length a1.ps.length a1.ps) := Gg2.out.below hb Gg2.out.lt
          clear hb
          obtain ⟨x0_0, x0_1, x0_2, x0_3, x0_4, x0_5, x0_6, x0_7, x0_8, x0_9, x0_10, x0_11⟩ := F0.out
          have m0 := F1.out.c0
          have m1 := F1.out.c1
          have o0 := FX.out.c0
          have o1 := FX.out.c1
          clear ho
          try dsimp only
          refine hK.out _ _ (by (try dsimp only); first | exact ⟨x0_0, x0_1, x0_2, x0_3, x0_4, x0_5, x0_6, x0_7, x0_8, x0_9, x0_10, x0_11, m0, m1, o0, o1⟩ | go_keep) (fun hHeld => ?_)
          clear hK K
          try simp only [Act.put, List.getElem_toArray, List.getElem_cons_succ, List.getElem_cons_zero, List.setIfInBounds_toArray, List.set_cons_zero, List.set_cons_succ]
          refine wpAnyH_ready (rs := [3]) (by kernel_rfl) (by simp) ?_
          refine (AllReadyH.cons rfl (fun K hK => ?_) AllReadyH.nil)
          go_simp
          refine (eqLedger_same a1.nx (some ⟨g2, 0, none⟩) (some ⟨g3, 0, none⟩) a1.ps.length a1.ps.length a1.ps hl _ (Gg2.out.pin Gg2.out.bl.2) (Gg3.out.pin Gg3.out.bl.2)).mono ?_
          rintro e v_33 ⟨rfl, hb⟩
          have F0 : Hid (HAt v_33 w.heap.size a0) := F0.out.below hb F0.out.lt
          have F1 : Hid (LW v_33 (w.heap.size + 1) a1.nx (.slice p1 a1.ps.length n1)) := F1.out.below hb F1.out.lt
          have FB : Hid (Below w.heap.size w v_33) := FB.out.trans (hb.mono FB.out.size)
          have FX : Hid (LW v_33 b a1.nx (.slice (some ⟨g2, 0, none⟩) a1.ps.length a1.ps.length)) := FX.out.below hb FX.out.lt
          have Gg2 : Hid (Ow v_33 w.heap.size g2 a1.ps.length a1.ps.length a1.ps) := Gg2.out.below hb Gg2.out.lt
          have Gg3 : Hid (Ow v_33 w.heap.size g3 a1.ps.length a1.ps.length a1.ps) := Gg3.out.below hb Gg3.out.lt
          clear hb
          obtain ⟨x0_0, x0_1, x0_2, x0_3, x0_4, x0_5, x0_6, x0_7, x0_8, x0_9, x0_10, x0_11⟩ := F0.out
          have m0 := F1.out.c0
          have m1 := F1.out.c1
          have o0 := FX.out.c0
          have o1 := FX.out.c1
          try dsimp only
          refine hK.out _ _ (by (try dsimp only); first | exact ⟨x0_0, x0_1, x0_2, x0_3, x0_4, x0_5, x0_6, x0_7, x0_8, x0_9, x0_10, x0_11, m0, m1, o0, o1⟩ | go_keep) (fun hHeld => ?_)
          clear hK K
          try simp only [Act.put, List.getElem_toArray, List.getElem_cons_succ, List.getElem_cons_zero, List.setIfInBounds_toArray, List.set_cons_zero, List.set_cons_succ]
          refine wpAnyH_take (i := 4) (v := _) rfl (by kernel_rfl) (by kernel_rfl) (by kernel_rfl) (fun _ _ _ h => h) (Or.inl ⟨by kernel_rfl, by (intro wx hSw; (try dsimp only at hSw); go_simp <;> with_reducible rfl)⟩) (by assumption) ?_
          try simp only [Act.put, List.getElem_toArray, List.getElem_cons_succ, List.getElem_cons_zero, List.setIfInBounds_toArray, List.set_cons_zero, List.set_cons_succ]
          refine wpAnyH_done (by kernel_rfl) ?_ _
          go_wp2_with fail
          go_ret
          exact ⟨by simp, FB.out⟩

set_option maxRecDepth 100000 in
theorem lifted (os : Os) (started : os.Started) (H : Type) (enc : TypeId × Value → H) :
    ReturnsInHanded {} Try.checked os 7 .any (Rows.fnExactNeedOfSpec.pre6 enc Try.prog Try.f7 Rows.fnExactNeedOfRow.domain false) (Rows.fnExactNeedOfSpec.post enc Try.prog Try.f7 false true false false) := by
  refine returnsInHanded_of_change (C := Try.checked) own started (by kernel_rfl) Try.func7
    (ChangeSpec.witness6 (enc := enc) (C := Try.checked) false ⟨#[], #[.agg #[.int .i64 0, .int .i64 0, .int .i64 0, .int .i64 0, .int .i64 0, .int .i64 0, .int .i64 0, .int .i64 0, .int .i64 0, .int .i64 0, .int .i64 0, .int .i64 0], .agg #[.int .i64 0, .slice none 0 0], .int .i64 0, .int .i64 0], []⟩ 8 (by kernel_rfl) (by kernel_rfl) (by kernel_rfl) (by kernel_rfl)) ?_
  intro W base args ds gs before hval0 hW hcnd _
  have hval : ∀ (j : Nat) t v, Try.f7.params[j]? = some t → args[j]? = some v → Value.okWide Try.prog W .any base t v := hval0
  have hW' := hW
  obtain ⟨p, q, hA0, hV, rfl, hfz, hnd⟩ := hW
  have hA : DataW.TrodAll enc Try.prog W 0 (fun _ => true) true Try.f7.params.toList args.toList ds p := hA0
  rw [Try.params7] at hA hval
  obtain ⟨v0, vs0, d0, ds0, p0, q0, hargs, rfl, rfl, h0, r0⟩ := trodAll_cons hA
  obtain ⟨v1, vs1, d1, ds1, p1, q1, rfl, rfl, rfl, h1, r1⟩ := trodAll_cons r0
  obtain ⟨v2, vs2, d2, ds2, p2, q2, rfl, rfl, rfl, h2, r2⟩ := trodAll_cons r1
  obtain ⟨v3, vs3, d3, ds3, p3, q3, rfl, rfl, rfl, h3, r3⟩ := trodAll_cons r2
  obtain ⟨rfl, rfl, rfl⟩ := trodAll_nil r3
  obtain rfl : args = #[v0, v1, v2, v3] := by cases args; simp_all
  obtain ⟨rfl, rfl⟩ := trodVars_none hV
  have k0 := h0
  have lt0 : ∀ x ∈ p0, x.block < W.heap.size := by obtain ⟨m, hm⟩ := k0; exact DataW.trod_lt m _ _ _ hm
  obtain ⟨xs0, hl0, rfl, w0⟩ := open_i64s Try.underlying40 Try.underlying2 (by kernel_rfl) (by kernel_rfl) (by kernel_rfl) (hval 0 40 v0 rfl rfl) h0
  obtain ⟨x0_0, x0_1, x0_2, x0_3, x0_4, x0_5, x0_6, x0_7, x0_8, x0_9, x0_10, x0_11, rfl⟩ := list12 hl0
  have k1 := h1
  have lt1 : ∀ x ∈ p1, x.block < W.heap.size := by obtain ⟨m, hm⟩ := k1; exact DataW.trod_lt m _ _ _ hm
  obtain ⟨x1, pa1, nc1, rfl, w1, u1, ln1, pin1⟩ := open_led (ts := 41) (te := 112) (k := 2) Try.underlying43 Try.underlying41 Try.underlying112 Try.underlying2 (by kernel_rfl) (by kernel_rfl) (by kernel_rfl) (by kernel_rfl) (by kernel_rfl) rfl rfl rfl rfl rfl rfl (hval 1 43 v1 rfl rfl) h1
  have k2 := h2
  have lt2 : ∀ x ∈ p2, x.block < W.heap.size := by obtain ⟨m, hm⟩ := k2; exact DataW.trod_lt m _ _ _ hm
  obtain ⟨a2, rfl, _, _, w2⟩ := open_int Try.underlying2 (hval 2 2 v2 rfl rfl) h2
  have k3 := h3
  have lt3 : ∀ x ∈ p3, x.block < W.heap.size := by obtain ⟨m, hm⟩ := k3; exact DataW.trod_lt m _ _ _ hm
  obtain ⟨a3, rfl, _, _, w3⟩ := open_int Try.underlying2 (hval 3 2 v3 rfl rfl) h3
  clear hA0 hval0
  refine (walk ⟨x0_0, x0_1, x0_2, x0_3, x0_4, x0_5, x0_6, x0_7, x0_8, x0_9, x0_10, x0_11⟩ x1 a2 a3 w0 pa1 nc1 w1 u1 ln1 w2 w3 W pin1).mono fun e W' ⟨he, bel⟩ => ?_
  subst he
  exact ⟨_, rfl, _, _, _, [], _, [], hW', trodAll_mk1 (shut_bool Try.underlying4 _), (trodAll_cons_mk (Below.trod laidOut (by kernel_rfl) (of_decide_eq_true (by kernel_rfl)) k0 bel lt0) (trodAll_cons_mk (Below.trod laidOut (by kernel_rfl) (of_decide_eq_true (by kernel_rfl)) k1 bel lt1) (trodAll_cons_mk (Below.trod laidOut (by kernel_rfl) (of_decide_eq_true (by kernel_rfl)) k2 bel lt2) (trodAll_cons_mk (Below.trod laidOut (by kernel_rfl) (of_decide_eq_true (by kernel_rfl)) k3 bel lt3) trodAll_mk0)))), rfl, bel.frame _, fun h => by cases h⟩

theorem over : Rows.fnExactNeedOfRow.holds Try.pinned (OpenSpec.ofChange Rows.fnExactNeedOfSpec) :=
  OpenClaim.holds_of_wide 7 Try.f7 rfl rfl rfl rfl rfl rfl rfl ⟨rfl, rfl, rfl, rfl, rfl⟩ rfl rfl rfl rfl rfl (by kernel_rfl) Try.func7 (by kernel_rfl)
    (of_decide_eq_true (by kernel_rfl)) (by unfold Func.isWrapper; first | (rw [if_pos (by decide +kernel)]; kernel_rfl) | (rw [if_neg (by decide +kernel)]; exact ⟨rfl, rfl⟩))
    (fun os started H enc _ => lifted os started H enc)

theorem proved : Rows.FnExactNeedOfSaid := over
end Go.Proofs.Ytllphhhaaoggjaa.fnExactNeedOf

namespace Go.Proofs.Ytllphhhaaoggjaa
theorem fnExactNeedOf_holds : Rows.FnExactNeedOfSaid := fnExactNeedOf.proved
#print axioms fnExactNeedOf_holds
end Go.Proofs.Ytllphhhaaoggjaa
