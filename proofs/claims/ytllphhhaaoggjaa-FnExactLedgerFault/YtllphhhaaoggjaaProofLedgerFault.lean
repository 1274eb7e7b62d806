/-
  At every house and every ledger LedgerFault answers as the model does, and writes into no argument.
-/
import Derived.Test.YtllphhhaaoggjaaRows
import Derived.WalkKit
import Derived.ProofKit
import Derived.OpenShut
import Derived.ChangeOld
import Derived.Below
import Derived.Test.YtllphhhaaoggjaaLedE
import Derived.Test.YtllphhhaaoggjaaPersT
import Derived.Test.YtllphhhaaoggjaaPersD
import Derived.Test.YtllphhhaaoggjaaOpenI
import Derived.Test.YtllphhhaaoggjaaOpenL
namespace Go.Proofs.Ytllphhhaaoggjaa.fnExactLedgerFault
open Go.ChangeShapes Go.WideShapes Go.ChangeAt Go.RowKit
set_option linter.unusedVariables false
set_option linter.unusedSimpArgs false

theorem own : ownKnob Try.prog.godebug = none := by kernel_rfl
theorem laidOut : laidOutB Try.prog = true := by kernel_rfl

set_option maxRecDepth 20000 in
set_option maxHeartbeats 32000000 in
theorem walk (a0 : Pl.Hs) (a1 : Pl.Lg) (w0 : ∀ x ∈ [a0.fl, a0.gp, a0.ln, a0.rf, a0.sp, a0.pu, a0.br, a0.dr, a0.lv, a0.dO, a0.ld, a0.qu], (Lit.int .i64 x).wf = true) (p1 : Option Addr) (n1 : Nat) (w1 : (Lit.int .i64 a1.nx).wf = true) (u1 : wfL a1.ps) (l1 : a1.ps.length ≤ maxLen) (w : World) (q1 : PIn w w.heap.size p1 a1.ps) :
    Calls Try.prog 4 #[.agg #[.int .i64 a0.fl, .int .i64 a0.gp, .int .i64 a0.ln, .int .i64 a0.rf, .int .i64 a0.sp, .int .i64 a0.pu, .int .i64 a0.br, .int .i64 a0.dr, .int .i64 a0.lv, .int .i64 a0.dO, .int .i64 a0.ld, .int .i64 a0.qu], .agg #[.int .i64 a1.nx, .slice p1 a1.ps.length n1]] w fun e w' => e = .returned (.bool true) ∧ Below w.heap.size w w' := by
  have HP : Hid (PIn w w.heap.size p1 a1.ps) := q1
  clear q1 w0
  have F0 : Hid (HAt ((w.alloc (.cells #[.int .i64 a0.fl, .int .i64 a0.gp, .int .i64 a0.ln, .int .i64 a0.rf, .int .i64 a0.sp, .int .i64 a0.pu, .int .i64 a0.br, .int .i64 a0.dr, .int .i64 a0.lv, .int .i64 a0.dO, .int .i64 a0.ld, .int .i64 a0.qu] 40)).alloc (.cells #[.int .i64 a1.nx, .slice p1 a1.ps.length n1] 43)) w.heap.size a0) := (HAt.new w a0 _).below ((Below.refl _ _).alloc (Nat.le_refl _) _) (by simp)
  have F1 : Hid (LW ((w.alloc (.cells #[.int .i64 a0.fl, .int .i64 a0.gp, .int .i64 a0.ln, .int .i64 a0.rf, .int .i64 a0.sp, .int .i64 a0.pu, .int .i64 a0.br, .int .i64 a0.dr, .int .i64 a0.lv, .int .i64 a0.dO, .int .i64 a0.ld, .int .i64 a0.qu] 40)).alloc (.cells #[.int .i64 a1.nx, .slice p1 a1.ps.length n1] 43)) (w.heap.size + 1) a1.nx (.slice p1 a1.ps.length n1)) := LW.at_ _ a1.nx (.slice p1 a1.ps.length n1) _ _ (by simp)
  have FB : Hid (Below w.heap.size w ((w.alloc (.cells #[.int .i64 a0.fl, .int .i64 a0.gp, .int .i64 a0.ln, .int .i64 a0.rf, .int .i64 a0.sp, .int .i64 a0.pu, .int .i64 a0.br, .int .i64 a0.dr, .int .i64 a0.lv, .int .i64 a0.dO, .int .i64 a0.ld, .int .i64 a0.qu] 40)).alloc (.cells #[.int .i64 a1.nx, .slice p1 a1.ps.length n1] 43))) := ((Below.refl _ _).alloc (Nat.le_refl _) _).alloc (by simp) _
  by_cases hl : a1.ps.length ≤ 1048576
  case neg =>
    have hs : (if (1048576 : Int) < a1.ps.length then (-1 : Int) else 1048576 - a1.ps.length) = -1 := if_pos (by omega)
    go_enter Try.func4, Try.ntmps4
    go_wp2_with (go_at_call 19; refine (szLedger_any a1.nx p1 a1.ps.length n1 1048576 (by omega) (by omega) l1 _).mono ?_; rw [hs]; rintro e w1 ⟨rfl, hb⟩; have FB : Hid (Below w.heap.size w w1) := FB.out.trans (hb.mono FB.out.size))
    go_ret
    exact ⟨by simp, FB.out⟩
  case pos =>
    have hs : (if (1048576 : Int) < a1.ps.length then (-1 : Int) else 1048576 - a1.ps.length) = 1048576 - a1.ps.length := if_neg (by omega)
    have hs2 : ¬ ((1048576 : Int) - a1.ps.length < 0) := by omega
    go_enter Try.func4, Try.ntmps4
    go_wp2_with (go_at_call 19; refine (szLedger_any a1.nx p1 a1.ps.length n1 1048576 (by omega) (by omega) l1 _).mono ?_; rw [hs]; rintro e w1 ⟨rfl, hb⟩; have F0 : Hid (HAt w1 w.heap.size a0) := F0.out.below hb F0.out.lt; have F1 : Hid (LW w1 (w.heap.size + 1) a1.nx (.slice p1 a1.ps.length n1)) := F1.out.below hb F1.out.lt; have FB : Hid (Below w.heap.size w w1) := FB.out.trans (hb.mono FB.out.size); clear hb; obtain ⟨x0_0, x0_1, x0_2, x0_3, x0_4, x0_5, x0_6, x0_7, x0_8, x0_9, x0_10, x0_11⟩ := F0.out; obtain ⟨m0, m1, m2, m3⟩ := F1.out)
    go_cut [6] (fun t wx => t = .int .i64 (Hs.led a0 a1) ∧ HAt wx w.heap.size a0 ∧ LW wx (w.heap.size + 1) a1.nx (.slice p1 a1.ps.length n1) ∧ Below w.heap.size w wx)
    case first =>
      have F0 : Hid (HAt w1.drew w.heap.size a0) := F0.out.below (Below.refl _ _).drew F0.out.lt
      have F1 : Hid (LW w1.drew (w.heap.size + 1) a1.nx (.slice p1 a1.ps.length n1)) := F1.out.below (Below.refl _ _).drew F1.out.lt
      have FB : Hid (Below w.heap.size w w1.drew) := FB.out.drew
      obtain ⟨x0_0, x0_1, x0_2, x0_3, x0_4, x0_5, x0_6, x0_7, x0_8, x0_9, x0_10, x0_11⟩ := F0.out
      have m0 := F1.out.c0
      have m1 := F1.out.c1
      refine wp_region_held_drew (S := (fun w'' => w''.cell? ⟨w.heap.size, 0, none⟩ = some (.int .i64 a0.fl) ∧ w''.cell? ⟨w.heap.size, 1, none⟩ = some (.int .i64 a0.gp) ∧ w''.cell? ⟨w.heap.size, 2, none⟩ = some (.int .i64 a0.ln) ∧ w''.cell? ⟨w.heap.size, 3, none⟩ = some (.int .i64 a0.rf) ∧ w''.cell? ⟨w.heap.size, 4, none⟩ = some (.int .i64 a0.sp) ∧ w''.cell? ⟨w.heap.size, 5, none⟩ = some (.int .i64 a0.pu) ∧ w''.cell? ⟨w.heap.size, 6, none⟩ = some (.int .i64 a0.br) ∧ w''.cell? ⟨w.heap.size, 7, none⟩ = some (.int .i64 a0.dr) ∧ w''.cell? ⟨w.heap.size, 8, none⟩ = some (.int .i64 a0.lv) ∧ w''.cell? ⟨w.heap.size, 9, none⟩ = some (.int .i64 a0.dO) ∧ w''.cell? ⟨w.heap.size, 10, none⟩ = some (.int .i64 a0.ld) ∧ w''.cell? ⟨w.heap.size, 11, none⟩ = some (.int .i64 a0.qu) ∧ w''.cell? ⟨w.heap.size + 1, 0, none⟩ = some (.int .i64 a1.nx) ∧ w''.cell? ⟨w.heap.size + 1, 1, none⟩ = some (.slice p1 a1.ps.length n1))) (by kernel_rfl) (by (try dsimp only); first | exact ⟨x0_0, x0_1, x0_2, x0_3, x0_4, x0_5, x0_6, x0_7, x0_8, x0_9, x0_10, x0_11, m0, m1⟩ | go_keep) (fun hHeld => ?_)
      obtain ⟨v_1, hw1⟩ : ∃ v_1, v_1 = w1.drew := ⟨_, rfl⟩
      have F0 : Hid (HAt v_1 w.heap.size a0) := by rw [hw1]; exact F0.out
      have F1 : Hid (LW v_1 (w.heap.size + 1) a1.nx (.slice p1 a1.ps.length n1)) := by rw [hw1]; exact F1.out
      have FB : Hid (Below w.heap.size w v_1) := by rw [hw1]; exact FB.out
      rw [← hw1] at hHeld ⊢
      clear hw1
      obtain ⟨x0_0, x0_1, x0_2, x0_3, x0_4, x0_5, x0_6, x0_7, x0_8, x0_9, x0_10, x0_11⟩ := F0.out
      have m0 := F1.out.c0
      have m1 := F1.out.c1
      refine wpAnyH_take (i := 0) (v := _) rfl (by kernel_rfl) (by kernel_rfl) (by kernel_rfl) (fun _ _ _ h => h) (Or.inl ⟨by kernel_rfl, by (intro wx hSw; (try dsimp only at hSw); go_simp <;> with_reducible rfl)⟩) (by assumption) ?_
      try simp only [Act.put, List.getElem_toArray, List.getElem_cons_succ, List.getElem_cons_zero, List.setIfInBounds_toArray, List.set_cons_zero, List.set_cons_succ]
      refine wpAnyH_take (i := 2) (v := _) rfl (by kernel_rfl) (by kernel_rfl) (by kernel_rfl) (fun _ _ _ h => h) (Or.inl ⟨by kernel_rfl, by (intro wx hSw; (try dsimp only at hSw); go_simp <;> with_reducible rfl)⟩) (by assumption) ?_
      try simp only [Act.put, List.getElem_toArray, List.getElem_cons_succ, List.getElem_cons_zero, List.setIfInBounds_toArray, List.set_cons_zero, List.set_cons_succ]
      refine wpAnyH_ready (rs := [1]) (by kernel_rfl) (by simp) ?_
      refine (AllReadyH.cons rfl (fun K hK => ?_) AllReadyH.nil)
      go_simp
      refine (toHouse_any a0 _).mono ?_
      rintro e v_2 ⟨rfl, hb⟩
      have F0 : Hid (HAt v_2 w.heap.size a0) := F0.out.below hb F0.out.lt
      have F1 : Hid (LW v_2 (w.heap.size + 1) a1.nx (.slice p1 a1.ps.length n1)) := F1.out.below hb F1.out.lt
      have FB : Hid (Below w.heap.size w v_2) := FB.out.trans (hb.mono FB.out.size)
      clear hb
      obtain ⟨x0_0, x0_1, x0_2, x0_3, x0_4, x0_5, x0_6, x0_7, x0_8, x0_9, x0_10, x0_11⟩ := F0.out
      have m0 := F1.out.c0
      have m1 := F1.out.c1
      try dsimp only
      refine hK.out _ _ (by (try dsimp only); first | exact ⟨x0_0, x0_1, x0_2, x0_3, x0_4, x0_5, x0_6, x0_7, x0_8, x0_9, x0_10, x0_11, m0, m1⟩ | go_keep) (fun hHeld => ?_)
      clear hK K
      try simp only [Act.put, List.getElem_toArray, List.getElem_cons_succ, List.getElem_cons_zero, List.setIfInBounds_toArray, List.set_cons_zero, List.set_cons_succ]
      refine wpAnyH_ready (rs := [3]) (by kernel_rfl) (by simp) ?_
      refine (AllReadyH.cons rfl (fun K hK => ?_) AllReadyH.nil)
      go_simp
      refine (toLedger_any a1.nx p1 n1 a1.ps hl _ ((HP.out.below FB.out (Nat.le_refl _)).mono FB.out.size)).mono ?_
      rintro e v_3 ⟨g1, rfl, ho, hb⟩
      have Gg1 : Hid (Ow v_3 w.heap.size g1 a1.ps.length a1.ps.length a1.ps) := ho.base FB.out.size
      have F0 : Hid (HAt v_3 w.heap.size a0) := F0.out.below hb F0.out.lt
      have F1 : Hid (LW v_3 (w.heap.size + 1) a1.nx (.slice p1 a1.ps.length n1)) := F1.out.below hb F1.out.lt
      have FB : Hid (Below w.heap.size w v_3) := FB.out.trans (hb.mono FB.out.size)
      clear hb
      obtain ⟨x0_0, x0_1, x0_2, x0_3, x0_4, x0_5, x0_6, x0_7, x0_8, x0_9, x0_10, x0_11⟩ := F0.out
      have m0 := F1.out.c0
      have m1 := F1.out.c1
      clear ho
      try dsimp only
      refine hK.out _ _ (by (try dsimp only); first | exact ⟨x0_0, x0_1, x0_2, x0_3, x0_4, x0_5, x0_6, x0_7, x0_8, x0_9, x0_10, x0_11, m0, m1⟩ | go_keep) (fun hHeld => ?_)
      clear hK K
      try simp only [Act.put, List.getElem_toArray, List.getElem_cons_succ, List.getElem_cons_zero, List.setIfInBounds_toArray, List.set_cons_zero, List.set_cons_succ]
      refine wpAnyH_ready (rs := [4]) (by kernel_rfl) (by simp) ?_
      refine (AllReadyH.cons rfl (fun K hK => ?_) AllReadyH.nil)
      go_simp
      refine (specLedgerFault_any a0 a1 (some ⟨g1, 0, none⟩) a1.ps.length hl _ (Gg1.out.pin Gg1.out.bl.2)).mono ?_
      rintro e v_4 ⟨rfl, hb⟩
      have F0 : Hid (HAt v_4 w.heap.size a0) := F0.out.below hb F0.out.lt
      have F1 : Hid (LW v_4 (w.heap.size + 1) a1.nx (.slice p1 a1.ps.length n1)) := F1.out.below hb F1.out.lt
      have FB : Hid (Below w.heap.size w v_4) := FB.out.trans (hb.mono FB.out.size)
      have Gg1 : Hid (Ow v_4 w.heap.size g1 a1.ps.length a1.ps.length a1.ps) := Gg1.out.below hb Gg1.out.lt
      clear hb
      obtain ⟨x0_0, x0_1, x0_2, x0_3, x0_4, x0_5, x0_6, x0_7, x0_8, x0_9, x0_10, x0_11⟩ := F0.out
      have m0 := F1.out.c0
      have m1 := F1.out.c1
      try dsimp only
      refine hK.out _ _ (by (try dsimp only); first | exact ⟨x0_0, x0_1, x0_2, x0_3, x0_4, x0_5, x0_6, x0_7, x0_8, x0_9, x0_10, x0_11, m0, m1⟩ | go_keep) (fun hHeld => ?_)
      clear hK K
      try simp only [Act.put, List.getElem_toArray, List.getElem_cons_succ, List.getElem_cons_zero, List.setIfInBounds_toArray, List.set_cons_zero, List.set_cons_succ]
      refine wpAnyH_take (i := 5) (v := _) rfl (by kernel_rfl) (by kernel_rfl) (by kernel_rfl) (fun _ _ _ h => h) (Or.inl ⟨by kernel_rfl, by (intro wx hSw; (try dsimp only at hSw); go_simp <;> with_reducible rfl)⟩) (by assumption) ?_
      try simp only [Act.put, List.getElem_toArray, List.getElem_cons_succ, List.getElem_cons_zero, List.setIfInBounds_toArray, List.set_cons_zero, List.set_cons_succ]
      refine wpAnyH_done (by kernel_rfl) ?_ _
      go_wp2_with fail
      go_meet
      case rel => exact ⟨rfl, F0.out, F1.out, FB.out⟩
    case rest =>
      obtain ⟨rfl, hcut'⟩ := hcut
      obtain ⟨hF0, hF1, hFB⟩ := hcut'
      have F0 : Hid (HAt wc w.heap.size a0) := hF0
      have F1 : Hid (LW wc (w.heap.size + 1) a1.nx (.slice p1 a1.ps.length n1)) := hF1
      have FB : Hid (Below w.heap.size w wc) := hFB
      clear hF0 hF1 hFB
      obtain ⟨x0_0, x0_1, x0_2, x0_3, x0_4, x0_5, x0_6, x0_7, x0_8, x0_9, x0_10, x0_11⟩ := F0.out
      obtain ⟨m0, m1, m2, m3⟩ := F1.out
      obtain ⟨wd, hwd⟩ : ∃ wd, wd = wc := ⟨_, rfl⟩
      subst hwd
      go_upto_region 6 with fail
      go_cut [7] (fun t wx => ∃ b g2, t = .pointer (some ⟨b, 0, none⟩) ∧ LW wx b a1.nx (.slice (some ⟨g2, 0, none⟩) a1.ps.length a1.ps.length) ∧ Ow wx w.heap.size g2 a1.ps.length a1.ps.length a1.ps ∧ HAt wx w.heap.size a0 ∧ LW wx (w.heap.size + 1) a1.nx (.slice p1 a1.ps.length n1) ∧ Below w.heap.size w wx)
      case first =>
        go_wp2_with (go_at_call 22; refine (toLedger_any a1.nx p1 n1 a1.ps hl _ ((HP.out.below FB.out (Nat.le_refl _)).mono FB.out.size)).mono ?_; rintro e w3 ⟨g2, rfl, ho, hb⟩; have Gg2 : Hid (Ow w3 w.heap.size g2 a1.ps.length a1.ps.length a1.ps) := ho.base FB.out.size; have F0 : Hid (HAt w3 w.heap.size a0) := F0.out.below hb F0.out.lt; have F1 : Hid (LW w3 (w.heap.size + 1) a1.nx (.slice p1 a1.ps.length n1)) := F1.out.below hb F1.out.lt; have FB : Hid (Below w.heap.size w w3) := FB.out.trans (hb.mono FB.out.size); clear hb ho; obtain ⟨x0_0, x0_1, x0_2, x0_3, x0_4, x0_5, x0_6, x0_7, x0_8, x0_9, x0_10, x0_11⟩ := F0.out; obtain ⟨m0, m1, m2, m3⟩ := F1.out)
        go_meet
        case rel => exact ⟨w3.heap.size, g2, rfl, LW.at_ w3 _ _ _ _ rfl, Gg2.out.alloc _, F0.out.alloc _, F1.out.alloc _, FB.out.alloc FB.out.size _⟩
      case rest =>
        obtain ⟨b, g2, rfl, hcut'⟩ := hcut
        obtain ⟨hFX, hGg2, hF0, hF1, hFB⟩ := hcut'
        have FX : Hid (LW wc b a1.nx (.slice (some ⟨g2, 0, none⟩) a1.ps.length a1.ps.length)) := hFX
        have Gg2 : Hid (Ow wc w.heap.size g2 a1.ps.length a1.ps.length a1.ps) := hGg2
        have F0 : Hid (HAt wc w.heap.size a0) := hF0
        have F1 : Hid (LW wc (w.heap.size + 1) a1.nx (.slice p1 a1.ps.length n1)) := hF1
        have FB : Hid (Below w.heap.size w wc) := hFB
        clear hFX hGg2 hF0 hF1 hFB
        obtain ⟨x0_0, x0_1, x0_2, x0_3, x0_4, x0_5, x0_6, x0_7, x0_8, x0_9, x0_10, x0_11⟩ := F0.out
        obtain ⟨m0, m1, m2, m3⟩ := F1.out
        obtain ⟨o0, o1, o2, o3⟩ := FX.out
        obtain ⟨we, hwe⟩ : ∃ we, we = wc := ⟨_, rfl⟩
        subst hwe
        go_wp2_with fail
        have F0 : Hid (HAt we.drew w.heap.size a0) := F0.out.below (Below.refl _ _).drew F0.out.lt
        have F1 : Hid (LW we.drew (w.heap.size + 1) a1.nx (.slice p1 a1.ps.length n1)) := F1.out.below (Below.refl _ _).drew F1.out.lt
        have FB : Hid (Below w.heap.size w we.drew) := FB.out.drew
        have FX : Hid (LW we.drew b a1.nx (.slice (some ⟨g2, 0, none⟩) a1.ps.length a1.ps.length)) := FX.out.below (Below.refl _ _).drew FX.out.lt
        have Gg2 : Hid (Ow we.drew w.heap.size g2 a1.ps.length a1.ps.length a1.ps) := Gg2.out.below (Below.refl _ _).drew Gg2.out.lt
        obtain ⟨x0_0, x0_1, x0_2, x0_3, x0_4, x0_5, x0_6, x0_7, x0_8, x0_9, x0_10, x0_11⟩ := F0.out
        have m0 := F1.out.c0
        have m1 := F1.out.c1
        have o0 := FX.out.c0
        have o1 := FX.out.c1
        refine wp_region_held_drew (S := (fun w'' => w''.cell? ⟨w.heap.size, 0, none⟩ = some (.int .i64 a0.fl) ∧ w''.cell? ⟨w.heap.size, 1, none⟩ = some (.int .i64 a0.gp) ∧ w''.cell? ⟨w.heap.size, 2, none⟩ = some (.int .i64 a0.ln) ∧ w''.cell? ⟨w.heap.size, 3, none⟩ = some (.int .i64 a0.rf) ∧ w''.cell? ⟨w.heap.size, 4, none⟩ = some (.int .i64 a0.sp) ∧ w''.cell? ⟨w.heap.size, 5, none⟩ = some (.int .i64 a0.pu) ∧ w''.cell? ⟨w.heap.size, 6, none⟩ = some (.int .i64 a0.br) ∧ w''.cell? ⟨w.heap.size, 7, none⟩ = some (.int .i64 a0.dr) ∧ w''.cell? ⟨w.heap.size, 8, none⟩ = some (.int .i64 a0.lv) ∧ w''.cell? ⟨w.heap.size, 9, none⟩ = some (.int .i64 a0.dO) ∧ w''.cell? ⟨w.heap.size, 10, none⟩ = some (.int .i64 a0.ld) ∧ w''.cell? ⟨w.heap.size, 11, none⟩ = some (.int .i64 a0.qu) ∧ w''.cell? ⟨w.heap.size + 1, 0, none⟩ = some (.int .i64 a1.nx) ∧ w''.cell? ⟨w.heap.size + 1, 1, none⟩ = some (.slice p1 a1.ps.length n1) ∧ w''.cell? ⟨b, 0, none⟩ = some (.int .i64 a1.nx) ∧ w''.cell? ⟨b, 1, none⟩ = some (.slice (some ⟨g2, 0, none⟩) a1.ps.length a1.ps.length))) (by kernel_rfl) (by (try dsimp only); first | exact ⟨x0_0, x0_1, x0_2, x0_3, x0_4, x0_5, x0_6, x0_7, x0_8, x0_9, x0_10, x0_11, m0, m1, o0, o1⟩ | go_keep) (fun hHeld => ?_)
        obtain ⟨v_5, hw1⟩ : ∃ v_5, v_5 = we.drew := ⟨_, rfl⟩
        have F0 : Hid (HAt v_5 w.heap.size a0) := by rw [hw1]; exact F0.out
        have F1 : Hid (LW v_5 (w.heap.size + 1) a1.nx (.slice p1 a1.ps.length n1)) := by rw [hw1]; exact F1.out
        have FB : Hid (Below w.heap.size w v_5) := by rw [hw1]; exact FB.out
        have FX : Hid (LW v_5 b a1.nx (.slice (some ⟨g2, 0, none⟩) a1.ps.length a1.ps.length)) := by rw [hw1]; exact FX.out
        have Gg2 : Hid (Ow v_5 w.heap.size g2 a1.ps.length a1.ps.length a1.ps) := by rw [hw1]; exact Gg2.out
        rw [← hw1] at hHeld ⊢
        clear hw1
        obtain ⟨x0_0, x0_1, x0_2, x0_3, x0_4, x0_5, x0_6, x0_7, x0_8, x0_9, x0_10, x0_11⟩ := F0.out
        have m0 := F1.out.c0
        have m1 := F1.out.c1
        have o0 := FX.out.c0
        have o1 := FX.out.c1
        refine wpAnyH_take (i := 0) (v := _) rfl (by kernel_rfl) (by kernel_rfl) (by kernel_rfl) (fun _ _ _ h => h) (Or.inl ⟨by kernel_rfl, by (intro wx hSw; (try dsimp only at hSw); go_simp <;> with_reducible rfl)⟩) (by assumption) ?_
        try simp only [Act.put, List.getElem_toArray, List.getElem_cons_succ, List.getElem_cons_zero, List.setIfInBounds_toArray, List.set_cons_zero, List.set_cons_succ]
        refine wpAnyH_take (i := 2) (v := _) rfl (by kernel_rfl) (by kernel_rfl) (by kernel_rfl) (fun _ _ _ h => h) (Or.inl ⟨by kernel_rfl, by (intro wx hSw; (try dsimp only at hSw); go_simp <;> with_reducible rfl)⟩) (by assumption) ?_
        try simp only [Act.put, List.getElem_toArray, List.getElem_cons_succ, List.getElem_cons_zero, List.setIfInBounds_toArray, List.set_cons_zero, List.set_cons_succ]
        refine wpAnyH_ready (rs := [1]) (by kernel_rfl) (by simp) ?_
        refine (AllReadyH.cons rfl (fun K hK => ?_) AllReadyH.nil)
        go_simp
        refine (toHouse_any a0 _).mono ?_
        rintro e v_6 ⟨rfl, hb⟩
        have F0 : Hid (HAt v_6 w.heap.size a0) := F0.out.below hb F0.out.lt
        have F1 : Hid (LW v_6 (w.heap.size + 1) a1.nx (.slice p1 a1.ps.length n1)) := F1.out.below hb F1.out.lt
        have FB : Hid (Below w.heap.size w v_6) := FB.out.trans (hb.mono FB.out.size)
        have FX : Hid (LW v_6 b a1.nx (.slice (some ⟨g2, 0, none⟩) a1.ps.length a1.ps.length)) := FX.out.below hb FX.out.lt
        have Gg2 : Hid (Ow v_6 w.heap.size g2 a1.ps.length a1.ps.length a1.ps) := Gg2.out.below hb Gg2.out.lt
        clear hb
        obtain ⟨x0_0, x0_1, x0_2, x0_3, x0_4, x0_5, x0_6, x0_7, x0_8, x0_9, x0_10, x0_11⟩ := F0.out
        have m0 := F1.out.c0
        have m1 := F1.out.c1
        have o0 := FX.out.c0
        have o1 := FX.out.c1
        try dsimp only
        refine hK.out _ _ (by (try dsimp only); first | exact ⟨x0_0, x0_1, x0_2, x0_3, x0_4, x0_5, x0_6, x0_7, x0_8, x0_9, x0_10, x0_11, m0, m1, o0, o1⟩ | go_keep) (fun hHeld => ?_)
        clear hK K
        try simp only [Act.put, List.getElem_toArray, List.getElem_cons_succ, List.getElem_cons_zero, List.setIfInBounds_toArray, List.set_cons_zero, List.set_cons_succ]
        refine wpAnyH_ready (rs := [3]) (by kernel_rfl) (by simp) ?_
        refine (AllReadyH.cons rfl (fun K hK => ?_) AllReadyH.nil)
        go_simp
        refine (implLedgerFault_any a0 a1 (some ⟨g2, 0, none⟩) a1.ps.length hl _ (Gg2.out.pin Gg2.out.bl.2)).mono ?_
        rintro e v_7 ⟨rfl, hb⟩
        have F0 : Hid (HAt v_7 w.heap.size a0) := F0.out.below hb F0.out.lt
        have F1 : Hid (LW v_7 (w.heap.size + 1) a1.nx (.slice p1 a1.ps.length n1)) := F1.out.below hb F1.out.lt
        have FB : Hid (Below w.heap.size w v_7) := FB.out.trans (hb.mono FB.out.size)
        have FX : Hid (LW v_7 b a1.nx (.slice (some ⟨g2, 0, none⟩) a1.ps.length a1.ps.length)) := FX.out.below hb FX.out.lt
        have Gg2 : Hid (Ow v_7 w.heap.size g2 a1.ps.length a1.ps.length a1.ps) := Gg2.out.below hb Gg2.out.lt
        clear hb
        obtain ⟨x0_0, x0_1, x0_2, x0_3, x0_4, x0_5, x0_6, x0_7, x0_8, x0_9, x0_10, x0_11⟩ := F0.out
        have m0 := F1.out.c0
        have m1 := F1.out.c1
        have o0 := FX.out.c0
        have o1 := FX.out.c1
        try dsimp only
        refine hK.out _ _ (by (try dsimp only); first | exact ⟨x0_0, x0_1, x0_2, x0_3, x0_4, x0_5, x0_6, x0_7, x0_8, x0_9, x0_10, x0_11, m0, m1, o0, o1⟩ | go_keep) (fun hHeld => ?_)
        clear hK K
        try simp only [Act.put, List.getElem_toArray, List.getElem_cons_succ, List.getElem_cons_zero, List.setIfInBounds_toArray, List.set_cons_zero, List.set_cons_succ]
        refine wpAnyH_take (i := 4) (v := _) rfl (by kernel_rfl) (by kernel_rfl) (by kernel_rfl) (fun _ _ _ h => h) (Or.inl ⟨by kernel_rfl, by (intro wx hSw; (try dsimp only at hSw); go_simp <;> with_reducible rfl)⟩) (by assumption) ?_
        try simp only [Act.put, List.getElem_toArray, List.getElem_cons_succ, List.getElem_cons_zero, List.setIfInBounds_toArray, List.set_cons_zero, List.set_cons_succ]
        refine wpAnyH_done (by kernel_rfl) ?_ _
        obtain ⟨wf, hwf⟩ : ∃ wf, wf = v_7 := ⟨_, rfl⟩
        subst hwf
        go_wp2_with fail
        have F0 : Hid (HAt wf.drew w.heap.size a0) := F0.out.below (Below.refl _ _).drew F0.out.lt
        have F1 : Hid (LW wf.drew (w.heap.size + 1) a1.nx (.slice p1 a1.ps.length n1)) := F1.out.below (Below.refl _ _).drew F1.out.lt
        have FB : Hid (Below w.heap.size w wf.drew) := FB.out.drew
        have FX : Hid (LW wf.drew b a1.nx (.slice (some ⟨g2, 0, none⟩) a1.ps.length a1.ps.length)) := FX.out.below (Below.refl _ _).drew FX.out.lt
        have Gg2 : Hid (Ow wf.drew w.heap.size g2 a1.ps.length a1.ps.length a1.ps) := Gg2.out.below (Below.refl _ _).drew Gg2.out.lt
        obtain ⟨x0_0, x0_1, x0_2, x0_3, x0_4, x0_5, x0_6, x0_7, x0_8, x0_9, x0_10, x0_11⟩ := F0.out
        have m0 := F1.out.c0
        have m1 := F1.out.c1
        have o0 := FX.out.c0
        have o1 := FX.out.c1
        refine wp_region_held_drew (S := (fun w'' => w''.cell? ⟨w.heap.size, 0, none⟩ = some (.int .i64 a0.fl) ∧ w''.cell? ⟨w.heap.size, 1, none⟩ = some (.int .i64 a0.gp) ∧ w''.cell? ⟨w.heap.size, 2, none⟩ = some (.int .i64 a0.ln) ∧ w''.cell? ⟨w.heap.size, 3, none⟩ = some (.int .i64 a0.rf) ∧ w''.cell? ⟨w.heap.size, 4, none⟩ = some (.int .i64 a0.sp) ∧ w''.cell? ⟨w.heap.size, 5, none⟩ = some (.int .i64 a0.pu) ∧ w''.cell? ⟨w.heap.size, 6, none⟩ = some (.int .i64 a0.br) ∧ w''.cell? ⟨w.heap.size, 7, none⟩ = some (.int .i64 a0.dr) ∧ w''.cell? ⟨w.heap.size, 8, none⟩ = some (.int .i64 a0.lv) ∧ w''.cell? ⟨w.heap.size, 9, none⟩ = some (.int .i64 a0.dO) ∧ w''.cell? ⟨w.heap.size, 10, none⟩ = some (.int .i64 a0.ld) ∧ w''.cell? ⟨w.heap.size, 11, none⟩ = some (.int .i64 a0.qu) ∧ w''.cell? ⟨w.heap.size + 1, 0, none⟩ = some (.int .i64 a1.nx) ∧ w''.cell? ⟨w.heap.size + 1, 1, none⟩ = some (.slice p1 a1.ps.length n1) ∧ w''.cell? ⟨b, 0, none⟩ = some (.int .i64 a1.nx) ∧ w''.cell? ⟨b, 1, none⟩ = some (.slice (some ⟨g2, 0, none⟩) a1.ps.length a1.ps.length))) (by kernel_rfl) (by (try dsimp only); first | exact ⟨x0_0, x0_1, x0_2, x0_3, x0_4, x0_5, x0_6, x0_7, x0_8, x0_9, x0_10, x0_11, m0, m1, o0, o1⟩ | go_keep) (fun hHeld => ?_)
        obtain ⟨v_8, hw1⟩ : ∃ v_8, v_8 = wf.drew := ⟨_, rfl⟩
        have F0 : Hid (HAt v_8 w.heap.size a0) := by rw [hw1]; exact F0.out
        have F1 : Hid (LW v_8 (w.heap.size + 1) a1.nx (.slice p1 a1.ps.length n1)) := by rw [hw1]; exact F1.out
        have FB : Hid (Below w.heap.size w v_8) := by rw [hw1]; exact FB.out
        have FX : Hid (LW v_8 b a1.nx (.slice (some ⟨g2, 0, none⟩) a1.ps.length a1.ps.length)) := by rw [hw1]; exact FX.out
        have Gg2 : Hid (Ow v_8 w.heap.size g2 a1.ps.length a1.ps.length a1.ps) := by rw [hw1]; exact Gg2.out
        rw [← hw1] at hHeld ⊢
        clear hw1
        obtain ⟨x0_0, x0_1, x0_2, x0_3, x0_4, x0_5, x0_6, x0_7, x0_8, x0_9, x0_10, x0_11⟩ := F0.out
        have m0 := F1.out.c0
        have m1 := F1.out.c1
        have o0 := FX.out.c0
        have o1 := FX.out.c1
        refine wpAnyH_take (i := 0) (v := _) rfl (by kernel_rfl) (by kernel_rfl) (by kernel_rfl) (fun _ _ _ h => h) (Or.inl ⟨by kernel_rfl, by (intro wx hSw; (try dsimp only at hSw); go_simp <;> with_reducible rfl)⟩) (by assumption) ?_
        try simp only [Act.put, List.getElem_toArray, List.getElem_cons_succ, List.getElem_cons_zero, List.setIfInBounds_toArray, List.set_cons_zero, List.set_cons_succ]
        refine wpAnyH_take (i := 1) (v := _) rfl (by kernel_rfl) (by kernel_rfl) (by kernel_rfl) (fun _ _ _ h => h) (Or.inl ⟨by kernel_rfl, by (intro wx hSw; (try dsimp only at hSw); go_simp <;> with_reducible rfl)⟩) (by assumption) ?_
        try simp only [Act.put, List.getElem_toArray, List.getElem_cons_succ, List.getElem_cons_zero, List.setIfInBounds_toArray, List.set_cons_zero, List.set_cons_succ]
        refine wpAnyH_ready (rs := [2]) (by kernel_rfl) (by simp) ?_
        refine (AllReadyH.cons rfl (fun K hK => ?_) AllReadyH.nil)
        go_simp
        refine (toLedger_any a1.nx p1 n1 a1.ps hl _ ((HP.out.below FB.out (Nat.le_refl _)).mono FB.out.size)).mono ?_
        rintro e v_9 ⟨g3, rfl, ho, hb⟩
        have Gg3 : Hid (Ow v_9 w.heap.size g3 a1.ps.length a1.ps.length a1.ps) := ho.base FB.out.size
        have F0 : Hid (HAt v_9 w.heap.size a0) := F0.out.below hb F0.out.lt
        have F1 : Hid (LW v_9 (w.heap.size + 1) a1.nx (.slice p1 a1.ps.length n1)) := F1.out.below hb F1.out.lt
        have FB : Hid (Below w.heap.size w v_9) := FB.out.trans (hb.mono FB.out.size)
        have FX : Hid (LW v_9 b a1.nx (.slice (some ⟨g2, 0, none⟩) a1.ps.length a1.ps.length)) := FX.out.below hb FX.out.lt
        have Gg2 : Hid (Ow v_9 w.heap.size g2 a1.ps.length a1.ps.length a1.ps) := Gg2.out.below hb Gg2.out.lt
        clear hb
        obtain ⟨x0_0, x0_1, x0_2, x0_3, x0_4, x0_5, x0_6, x0_7, x0_8, x0_9, x0_10, x0_11⟩ := F0.out
        have m0 := F1.out.c0
        have m1 := F1.out.c1
        have o0 := FX.out.c0
        have o1 := FX.out.c1
        clear ho
        try dsimp only
        refine hK.out _ _ (by (try dsimp only); first | exact ⟨x0_0, x0_1, x0_2, x0_3, x0_4, x0_5, x0_6, x0_7, x0_8, x0_9, x0_10, x0_11, m0, m1, o0, o1⟩ | go_keep) (fun hHeld => ?_)
        clear hK K
        try simp only [Act.put, List.getElem_toArray, List.getElem_cons_succ, List.getElem_cons_zero, List.setIfInBounds_toArray, List.set_cons_zero, List.set_cons_succ]
        refine wpAnyH_ready (rs := [3]) (by kernel_rfl) (by simp) ?_
        refine (AllReadyH.cons rfl (fun K hK => ?_) AllReadyH.nil)
        go_simp
        refine (eqLedger_same a1.nx (some ⟨g2, 0, none⟩) (some ⟨g3, 0, none⟩) a1.ps.length a1.ps.length a1.ps hl _ (Gg2.out.pin Gg2.out.bl.2) (Gg3.out.pin Gg3.out.bl.2)).mono ?_
        rintro e v_10 ⟨rfl, hb⟩
        have F0 : Hid (HAt v_10 w.heap.size a0) := F0.out.below hb F0.out.lt
        have F1 : Hid (LW v_10 (w.heap.size + 1) a1.nx (.slice p1 a1.ps.length n1)) := F1.out.below hb F1.out.lt
        have FB : Hid (Below w.heap.size w v_10) := FB.out.trans (hb.mono FB.out.size)
        have FX : Hid (LW v_10 b a1.nx (.slice (some ⟨g2, 0, none⟩) a1.ps.length a1.ps.length)) := FX.out.below hb FX.out.lt
        have Gg2 : Hid (Ow v_10 w.heap.size g2 a1.ps.length a1.ps.length a1.ps) := Gg2.out.below hb Gg2.out.lt
        have Gg3 : Hid (Ow v_10 w.heap.size g3 a1.ps.length a1.ps.length a1.ps) := Gg3.out.below hb Gg3.out.lt
        clear hb
        obtain ⟨x0_0, x0_1, x0_2, x0_3, x0_4, x0_5, x0_6, x0_7, x0_8, x0_9, x0_10, x0_11⟩ := F0.out
        have m0 := F1.out.c0
        have m1 := F1.out.c1
        have o0 := FX.out.c0
        have o1 := FX.out.c1
        try dsimp only
        refine hK.out _ _ (by (try dsimp only); first | exact ⟨x0_0, x0_1, x0_2, x0_3, x0_4, x0_5, x0_6, x0_7, x0_8, x0_9, x0_10, x0_11, m0, m1, o0, o1⟩ | go_keep) (fun hHeld => ?_)
        clear hK K
        try simp only [Act.put, List.getElem_toArray, List.getElem_cons_succ, List.getElem_cons_zero, List.setIfInBounds_toArray, List.set_cons_zero, List.set_cons_succ]
        refine wpAnyH_take (i := 4) (v := _) rfl (by kernel_rfl) (by kernel_rfl) (by kernel_rfl) (fun _ _ _ h => h) (Or.inl ⟨by kernel_rfl, by (intro wx hSw; (try dsimp only at hSw); go_simp <;> with_reducible rfl)⟩) (by assumption) ?_
        try simp only [Act.put, List.getElem_toArray, List.getElem_cons_succ, List.getElem_cons_zero, List.setIfInBounds_toArray, List.set_cons_zero, List.set_cons_succ]
        refine wpAnyH_done (by kernel_rfl) ?_ _
        go_wp2_with fail
        go_ret
        exact ⟨by simp, FB.out⟩

set_option maxRecDepth 100000 in
theorem lifted (os : Os) (started : os.Started) (H : Type) (enc : TypeId × Value → H) :
    ReturnsInHanded {} Try.checked os 4 .any (Rows.fnExactLedgerFaultSpec.pre6 enc Try.prog Try.f4 Rows.fnExactLedgerFaultRow.domain false) (Rows.fnExactLedgerFaultSpec.post enc Try.prog Try.f4 false true false false) := by
  refine returnsInHanded_of_change (C := Try.checked) own started (by kernel_rfl) Try.func4
    (ChangeSpec.witness6 (enc := enc) (C := Try.checked) false ⟨#[], #[.agg #[.int .i64 0, .int .i64 0, .int .i64 0, .int .i64 0, .int .i64 0, .int .i64 0, .int .i64 0, .int .i64 0, .int .i64 0, .int .i64 0, .int .i64 0, .int .i64 0], .agg #[.int .i64 0, .slice none 0 0]], []⟩ 8 (by kernel_rfl) (by kernel_rfl) (by kernel_rfl) (by kernel_rfl)) ?_
  intro W base args ds gs before hval0 hW hcnd _
  have hval : ∀ (j : Nat) t v, Try.f4.params[j]? = some t → args[j]? = some v → Value.okWide Try.prog W .any base t v := hval0
  have hW' := hW
  obtain ⟨p, q, hA0, hV, rfl, hfz, hnd⟩ := hW
  have hA : DataW.TrodAll enc Try.prog W 0 (fun _ => true) true Try.f4.params.toList args.toList ds p := hA0
  rw [Try.params4] at hA hval
  obtain ⟨v0, vs0, d0, ds0, p0, q0, hargs, rfl, rfl, h0, r0⟩ := trodAll_cons hA
  obtain ⟨v1, vs1, d1, ds1, p1, q1, rfl, rfl, rfl, h1, r1⟩ := trodAll_cons r0
  obtain ⟨rfl, rfl, rfl⟩ := trodAll_nil r1
  obtain rfl : args = #[v0, v1] := by cases args; simp_all
  obtain ⟨rfl, rfl⟩ := trodVars_none hV
  have k0 := h0
  have lt0 : ∀ x ∈ p0, x.block < W.heap.size := by obtain ⟨m, hm⟩ := k0; exact DataW.trod_lt m _ _ _ hm
  obtain ⟨xs0, hl0, rfl, w0⟩ := open_i64s Try.underlying40 Try.underlying2 (by kernel_rfl) (by kernel_rfl) (by kernel_rfl) (hval 0 40 v0 rfl rfl) h0
  obtain ⟨x0_0, x0_1, x0_2, x0_3, x0_4, x0_5, x0_6, x0_7, x0_8, x0_9, x0_10, x0_11, rfl⟩ := list12 hl0
  have k1 := h1
  have lt1 : ∀ x ∈ p1, x.block < W.heap.size := by obtain ⟨m, hm⟩ := k1; exact DataW.trod_lt m _ _ _ hm
  obtain ⟨x1, pa1, nc1, rfl, w1, u1, ln1, pin1⟩ := open_led (ts := 41) (te := 112) (k := 2) Try.underlying43 Try.underlying41 Try.underlying112 Try.underlying2 (by kernel_rfl) (by kernel_rfl) (by kernel_rfl) (by kernel_rfl) (by kernel_rfl) rfl rfl rfl rfl rfl rfl (hval 1 43 v1 rfl rfl) h1
  clear hA0 hval0
  refine (walk ⟨x0_0, x0_1, x0_2, x0_3, x0_4, x0_5, x0_6, x0_7, x0_8, x0_9, x0_10, x0_11⟩ x1 w0 pa1 nc1 w1 u1 ln1 W pin1).mono fun e W' ⟨he, bel⟩ => ?_
  subst he
  exact ⟨_, rfl, _, _, _, [], _, [], hW', trodAll_mk1 (shut_bool Try.underlying4 _), (trodAll_cons_mk (Below.trod laidOut (by kernel_rfl) (of_decide_eq_true (by kernel_rfl)) k0 bel lt0) (trodAll_cons_mk (Below.trod laidOut (by kernel_rfl) (of_decide_eq_true (by kernel_rfl)) k1 bel lt1) trodAll_mk0)), rfl, bel.frame _, fun h => by cases h⟩

theorem over : Rows.fnExactLedgerFaultRow.holds Try.pinned (OpenSpec.ofChange Rows.fnExactLedgerFaultSpec) :=
  OpenClaim.holds_of_wide 4 Try.f4 rfl rfl rfl rfl rfl rfl rfl ⟨rfl, rfl, rfl, rfl, rfl⟩ rfl rfl rfl rfl rfl (by kernel_rfl) Try.func4 (by kernel_rfl)
    (of_decide_eq_true (by kernel_rfl)) (by unfold Func.isWrapper; first | (rw [if_pos (by decide +kernel)]; kernel_rfl) | (rw [if_neg (by decide +kernel)]; exact ⟨rfl, rfl⟩))
    (fun os started H enc _ => lifted os started H enc)

theorem proved : Rows.FnExactLedgerFaultSaid := over
end Go.Proofs.Ytllphhhaaoggjaa.fnExactLedgerFault

namespace Go.Proofs.Ytllphhhaaoggjaa
theorem fnExactLedgerFault_holds : Rows.FnExactLedgerFaultSaid := fnExactLedgerFault.proved
#print axioms fnExactLedgerFault_holds
end Go.Proofs.Ytllphhhaaoggjaa
