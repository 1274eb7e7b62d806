/-
  At every house, tick and two ledgers DiffLedgers answers as its model, leaves its arguments as they are, and answers in memory of its own. No condition.
-/
import Derived.Test.YtiejogkhobiddaaRows
import Derived.WalkKit
import Derived.ProofKit
import Derived.OpenShut
import Derived.ChangeOld
import Derived.Below
import Derived.Test.YtiejogkhobiddaaEvO
import Derived.Test.YtiejogkhobiddaaFnd
import Derived.Test.YtiejogkhobiddaaOpenL
namespace Go.Proofs.Ytiejogkhobiddaa.fnExactDiffLedgers
open Go.ChangeShapes Go.WideShapes Go.ChangeAt Go.RowKit
set_option linter.unusedVariables false
set_option linter.unusedSimpArgs false

theorem own : ownKnob Try.prog.godebug = none := by kernel_rfl
theorem laidOut : laidOutB Try.prog = true := by kernel_rfl

set_option maxRecDepth 20000 in
set_option maxHeartbeats 32000000 in
theorem walk (a0 : Pl.Hs) (a1 : Int) (a2 : Pl.Lg) (a3 : Pl.Lg) (w0 : ∀ x ∈ [a0.fl, a0.gp, a0.ln, a0.rf, a0.sp, a0.pu, a0.br, a0.dr, a0.lv, a0.dO, a0.ld, a0.qu], (Lit.int .i64 x).wf = true) (w1 : (Lit.int .i64 a1).wf = true) (p2 : Option Addr) (n2 : Nat) (w2 : (Lit.int .i64 a2.nx).wf = true) (u2 : wfL a2.ps) (l2 : a2.ps.length ≤ maxLen) (p3 : Option Addr) (n3 : Nat) (w3 : (Lit.int .i64 a3.nx).wf = true) (u3 : wfL a3.ps) (l3 : a3.ps.length ≤ maxLen) (w : World) (q2 : PIn w w.heap.size p2 a2.ps) (q3 : PIn w w.heap.size p3 a3.ps) :
    Calls Try.prog 3 #[.agg #[.int .i64 a0.fl, .int .i64 a0.gp, .int .i64 a0.ln, .int .i64 a0.rf, .int .i64 a0.sp, .int .i64 a0.pu, .int .i64 a0.br, .int .i64 a0.dr, .int .i64 a0.lv, .int .i64 a0.dO, .int .i64 a0.ld, .int .i64 a0.qu], .int .i64 a1, .agg #[.int .i64 a2.nx, .slice p2 a2.ps.length n2], .agg #[.int .i64 a3.nx, .slice p3 a3.ps.length n3]] w fun e w' => e = .returned (.bool true) ∧ Below w.heap.size w w' := by
  have HP2 : Hid (PIn w w.heap.size p2 a2.ps) := q2
  have HP3 : Hid (PIn w w.heap.size p3 a3.ps) := q3
  clear q2 q3 w0
  obtain ⟨W0, hW0⟩ : ∃ W0, W0 = ((w.alloc (.cells #[.int .i64 a0.fl, .int .i64 a0.gp, .int .i64 a0.ln, .int .i64 a0.rf, .int .i64 a0.sp, .int .i64 a0.pu, .int .i64 a0.br, .int .i64 a0.dr, .int .i64 a0.lv, .int .i64 a0.dO, .int .i64 a0.ld, .int .i64 a0.qu] 23)).alloc (.cells #[.int .i64 a2.nx, .slice p2 a2.ps.length n2] 26)).alloc (.cells #[.int .i64 a3.nx, .slice p3 a3.ps.length n3] 26) := ⟨_, rfl⟩
  have F0 : Hid (Blk W0 w.heap.size [.int .i64 a0.fl, .int .i64 a0.gp, .int .i64 a0.ln, .int .i64 a0.rf, .int .i64 a0.sp, .int .i64 a0.pu, .int .i64 a0.br, .int .i64 a0.dr, .int .i64 a0.lv, .int .i64 a0.dO, .int .i64 a0.ld, .int .i64 a0.qu]) := by rw [hW0]; exact ((Blk.at_ w _ _ _ rfl).alloc _).alloc _
  have F1 : Hid (Blk W0 (w.heap.size + 1) [.int .i64 a2.nx, .slice p2 a2.ps.length n2]) := by rw [hW0]; exact (Blk.at_ _ _ _ _ (by simp)).alloc _
  have F2 : Hid (Blk W0 (w.heap.size + 2) [.int .i64 a3.nx, .slice p3 a3.ps.length n3]) := by rw [hW0]; exact Blk.at_ _ _ _ _ (by simp)
  have FB : Hid (Below w.heap.size w W0) := by rw [hW0]; exact (((Below.refl _ _).alloc (Nat.le_refl _) _).alloc (by simp) _).alloc (by simp; omega) _
  have HW0 : Hid (W0 = ((w.alloc (.cells #[.int .i64 a0.fl, .int .i64 a0.gp, .int .i64 a0.ln, .int .i64 a0.rf, .int .i64 a0.sp, .int .i64 a0.pu, .int .i64 a0.br, .int .i64 a0.dr, .int .i64 a0.lv, .int .i64 a0.dO, .int .i64 a0.ld, .int .i64 a0.qu] 23)).alloc (.cells #[.int .i64 a2.nx, .slice p2 a2.ps.length n2] 26)).alloc (.cells #[.int .i64 a3.nx, .slice p3 a3.ps.length n3] 26)) := hW0
  clear hW0
  go_enter Try.func3, Try.ntmps3
  go_upto_region 2 with fail
  rw [← HW0.out]
  clear HW0
  by_cases hl2 : a2.ps.length ≤ 1048576
  case neg =>
    have hs : (if (1048576 : Int) < a2.ps.length then (-1 : Int) else 1048576 - a2.ps.length) = -1 := if_pos (by omega)
    go_wp2_with (first | (refine load_blk 26 _ Try.underlying26 (by kernel_rfl) F1.out rfl rfl rfl ?_) | (refine load_blk 26 _ Try.underlying26 (by kernel_rfl) F2.out rfl rfl rfl ?_) | (go_at_call 4; refine (szLedger_any a2.nx p2 a2.ps.length n2 (1048576) (by omega) (by omega) l2 _).mono ?_; rw [hs]; rintro e w1 ⟨rfl, hb⟩; have F0 : Hid (Blk w1 w.heap.size [.int .i64 a0.fl, .int .i64 a0.gp, .int .i64 a0.ln, .int .i64 a0.rf, .int .i64 a0.sp, .int .i64 a0.pu, .int .i64 a0.br, .int .i64 a0.dr, .int .i64 a0.lv, .int .i64 a0.dO, .int .i64 a0.ld, .int .i64 a0.qu]) := F0.out.below hb F0.out.lt; have F1 : Hid (Blk w1 (w.heap.size + 1) [.int .i64 a2.nx, .slice p2 a2.ps.length n2]) := F1.out.below hb F1.out.lt; have F2 : Hid (Blk w1 (w.heap.size + 2) [.int .i64 a3.nx, .slice p3 a3.ps.length n3]) := F2.out.below hb F2.out.lt; have FB : Hid (Below w.heap.size w w1) := FB.out.trans (hb.mono FB.out.size); clear hb))
    go_ret
    exact ⟨by simp, FB.out⟩
  have hs : (if (1048576 : Int) < a2.ps.length then (-1 : Int) else 1048576 - a2.ps.length) = 1048576 - a2.ps.length := if_neg (by omega)
  have hs2 : ¬ ((1048576 : Int) - a2.ps.length < 0) := by omega
  by_cases hl3' : a2.ps.length + a3.ps.length ≤ 1048576
  case neg =>
    have ht : (if (1048576 : Int) - a2.ps.length < a3.ps.length then (-1 : Int) else 1048576 - a2.ps.length - a3.ps.length) = -1 := if_pos (by omega)
    go_upto_region 5 with (first | (refine load_blk 26 _ Try.underlying26 (by kernel_rfl) F1.out rfl rfl rfl ?_) | (refine load_blk 26 _ Try.underlying26 (by kernel_rfl) F2.out rfl rfl rfl ?_) | (go_at_call 4; refine (szLedger_any a2.nx p2 a2.ps.length n2 (1048576) (by omega) (by omega) l2 _).mono ?_; rw [hs]; rintro e w1 ⟨rfl, hb⟩; have F0 : Hid (Blk w1 w.heap.size [.int .i64 a0.fl, .int .i64 a0.gp, .int .i64 a0.ln, .int .i64 a0.rf, .int .i64 a0.sp, .int .i64 a0.pu, .int .i64 a0.br, .int .i64 a0.dr, .int .i64 a0.lv, .int .i64 a0.dO, .int .i64 a0.ld, .int .i64 a0.qu]) := F0.out.below hb F0.out.lt; have F1 : Hid (Blk w1 (w.heap.size + 1) [.int .i64 a2.nx, .slice p2 a2.ps.length n2]) := F1.out.below hb F1.out.lt; have F2 : Hid (Blk w1 (w.heap.size + 2) [.int .i64 a3.nx, .slice p3 a3.ps.length n3]) := F2.out.below hb F2.out.lt; have FB : Hid (Below w.heap.size w w1) := FB.out.trans (hb.mono FB.out.size); clear hb))
    go_wp2_with (first | (refine load_blk 26 _ Try.underlying26 (by kernel_rfl) F1.out rfl rfl rfl ?_) | (refine load_blk 26 _ Try.underlying26 (by kernel_rfl) F2.out rfl rfl rfl ?_) | (go_at_call 4; refine (szLedger_any a3.nx p3 a3.ps.length n3 (1048576 - a2.ps.length) (by omega) (by omega) l3 _).mono ?_; rw [ht]; rintro e w2 ⟨rfl, hb⟩; have F0 : Hid (Blk w2 w.heap.size [.int .i64 a0.fl, .int .i64 a0.gp, .int .i64 a0.ln, .int .i64 a0.rf, .int .i64 a0.sp, .int .i64 a0.pu, .int .i64 a0.br, .int .i64 a0.dr, .int .i64 a0.lv, .int .i64 a0.dO, .int .i64 a0.ld, .int .i64 a0.qu]) := F0.out.below hb F0.out.lt; have F1 : Hid (Blk w2 (w.heap.size + 1) [.int .i64 a2.nx, .slice p2 a2.ps.length n2]) := F1.out.below hb F1.out.lt; have F2 : Hid (Blk w2 (w.heap.size + 2) [.int .i64 a3.nx, .slice p3 a3.ps.length n3]) := F2.out.below hb F2.out.lt; have FB : Hid (Below w.heap.size w w2) := FB.out.trans (hb.mono FB.out.size); clear hb))
    go_ret
    exact ⟨by simp, FB.out⟩
  have ht : (if (1048576 : Int) - a2.ps.length < a3.ps.length then (-1 : Int) else 1048576 - a2.ps.length - a3.ps.length) = 1048576 - a2.ps.length - a3.ps.length := if_neg (by omega)
  have ht2 : ¬ ((1048576 : Int) - a2.ps.length - a3.ps.length < 0) := by omega
  have hl3 : a3.ps.length ≤ 1048576 := by omega
  obtain ⟨rk, rl, hrl, CS, CI⟩ : ∃ (rk : Int) (rl : List Pl.Ev), rl.length ≤ 1048576 ∧ (∀ (B g g' : Nat) (W : World), Ow W B g a2.ps.length a2.ps.length a2.ps → Ow W B g' a3.ps.length a3.ps.length a3.ps → Calls Try.prog 5 #[.agg #[.int .i64 a0.fl, .int .i64 a0.gp, .int .i64 a0.ln, .int .i64 a0.rf, .int .i64 a0.sp, .int .i64 a0.pu, .int .i64 a0.br, .int .i64 a0.dr, .int .i64 a0.lv, .int .i64 a0.dO, .int .i64 a0.ld, .int .i64 a0.qu], .int .i64 a1, .agg #[.int .i64 a2.nx, .slice (some ⟨g, 0, none⟩) a2.ps.length a2.ps.length], .agg #[.int .i64 a3.nx, .slice (some ⟨g', 0, none⟩) a3.ps.length a3.ps.length]] W (isEvsS W rk rl)) ∧ (∀ (B g g' : Nat) (W : World), Ow W B g a2.ps.length a2.ps.length a2.ps → Ow W B g' a3.ps.length a3.ps.length a3.ps → Calls Try.prog 8 #[.agg #[.int .i64 a0.fl, .int .i64 a0.gp, .int .i64 a0.ln, .int .i64 a0.rf, .int .i64 a0.sp, .int .i64 a0.pu, .int .i64 a0.br, .int .i64 a0.dr, .int .i64 a0.lv, .int .i64 a0.dO, .int .i64 a0.ld, .int .i64 a0.qu], .int .i64 a1, .agg #[.int .i64 a2.nx, .slice (some ⟨g, 0, none⟩) a2.ps.length a2.ps.length], .agg #[.int .i64 a3.nx, .slice (some ⟨g', 0, none⟩) a3.ps.length a3.ps.length]] W (isEvsS W rk rl)) :=
    ⟨_, _, dfV_len a0 a1 a2 a3 hl3, fun B g g' W h0 h1 => (specDiff_any a0 a1 a2 a3 _ _ _ _ hl2 hl3 W (h0.pin h0.bl.2) (h1.pin h1.bl.2)).mono (fun _ _ h => h.s), fun B g g' W h0 h1 => (implDiff_any a0 a1 a2 a3 _ _ _ _ hl2 hl3 W (h0.pin h0.bl.2) (h1.pin h1.bl.2)).mono (fun _ _ h => h.s)⟩
  go_upto_region 5 with (first | (refine load_blk 26 _ Try.underlying26 (by kernel_rfl) F1.out rfl rfl rfl ?_) | (refine load_blk 26 _ Try.underlying26 (by kernel_rfl) F2.out rfl rfl rfl ?_) | (go_at_call 4; refine (szLedger_any a2.nx p2 a2.ps.length n2 (1048576) (by omega) (by omega) l2 _).mono ?_; rw [hs]; rintro e w1 ⟨rfl, hb⟩; have F0 : Hid (Blk w1 w.heap.size [.int .i64 a0.fl, .int .i64 a0.gp, .int .i64 a0.ln, .int .i64 a0.rf, .int .i64 a0.sp, .int .i64 a0.pu, .int .i64 a0.br, .int .i64 a0.dr, .int .i64 a0.lv, .int .i64 a0.dO, .int .i64 a0.ld, .int .i64 a0.qu]) := F0.out.below hb F0.out.lt; have F1 : Hid (Blk w1 (w.heap.size + 1) [.int .i64 a2.nx, .slice p2 a2.ps.length n2]) := F1.out.below hb F1.out.lt; have F2 : Hid (Blk w1 (w.heap.size + 2) [.int .i64 a3.nx, .slice p3 a3.ps.length n3]) := F2.out.below hb F2.out.lt; have FB : Hid (Below w.heap.size w w1) := FB.out.trans (hb.mono FB.out.size); clear hb))
  go_upto_region 8 with (first | (refine load_blk 26 _ Try.underlying26 (by kernel_rfl) F1.out rfl rfl rfl ?_) | (refine load_blk 26 _ Try.underlying26 (by kernel_rfl) F2.out rfl rfl rfl ?_) | (go_at_call 4; refine (szLedger_any a3.nx p3 a3.ps.length n3 (1048576 - a2.ps.length) (by omega) (by omega) l3 _).mono ?_; rw [ht]; rintro e w2 ⟨rfl, hb⟩; have F0 : Hid (Blk w2 w.heap.size [.int .i64 a0.fl, .int .i64 a0.gp, .int .i64 a0.ln, .int .i64 a0.rf, .int .i64 a0.sp, .int .i64 a0.pu, .int .i64 a0.br, .int .i64 a0.dr, .int .i64 a0.lv, .int .i64 a0.dO, .int .i64 a0.ld, .int .i64 a0.qu]) := F0.out.below hb F0.out.lt; have F1 : Hid (Blk w2 (w.heap.size + 1) [.int .i64 a2.nx, .slice p2 a2.ps.length n2]) := F1.out.below hb F1.out.lt; have F2 : Hid (Blk w2 (w.heap.size + 2) [.int .i64 a3.nx, .slice p3 a3.ps.length n3]) := F2.out.below hb F2.out.lt; have FB : Hid (Below w.heap.size w w2) := FB.out.trans (hb.mono FB.out.size); clear hb))
  clear hs hs2 ht ht2
  go_cut [10] (fun t wx => ∃ r1 s1 c1, t = .pointer (some ⟨r1, 0, none⟩) ∧ Blk wx w.heap.size [.int .i64 a0.fl, .int .i64 a0.gp, .int .i64 a0.ln, .int .i64 a0.rf, .int .i64 a0.sp, .int .i64 a0.pu, .int .i64 a0.br, .int .i64 a0.dr, .int .i64 a0.lv, .int .i64 a0.dO, .int .i64 a0.ld, .int .i64 a0.qu] ∧ Blk wx (w.heap.size + 1) [.int .i64 a2.nx, .slice p2 a2.ps.length n2] ∧ Blk wx (w.heap.size + 2) [.int .i64 a3.nx, .slice p3 a3.ps.length n3] ∧ Below w.heap.size w wx ∧ Blk wx r1 [.int .i64 rk, .int .i64 0, .slice s1 rl.length c1] ∧ OwnE wx w.heap.size (.slice s1 rl.length c1) rl)
  case first =>
    have F0 : Hid (Blk w2.drew w.heap.size [.int .i64 a0.fl, .int .i64 a0.gp, .int .i64 a0.ln, .int .i64 a0.rf, .int .i64 a0.sp, .int .i64 a0.pu, .int .i64 a0.br, .int .i64 a0.dr, .int .i64 a0.lv, .int .i64 a0.dO, .int .i64 a0.ld, .int .i64 a0.qu]) := F0.out.below (Below.refl _ _).drew F0.out.lt
    have F1 : Hid (Blk w2.drew (w.heap.size + 1) [.int .i64 a2.nx, .slice p2 a2.ps.length n2]) := F1.out.below (Below.refl _ _).drew F1.out.lt
    have F2 : Hid (Blk w2.drew (w.heap.size + 2) [.int .i64 a3.nx, .slice p3 a3.ps.length n3]) := F2.out.below (Below.refl _ _).drew F2.out.lt
    have FB : Hid (Below w.heap.size w w2.drew) := FB.out.drew
    refine wp_region_held_drew (S := (fun w'' => Blk w'' w.heap.size ([.int .i64 a0.fl, .int .i64 a0.gp, .int .i64 a0.ln, .int .i64 a0.rf, .int .i64 a0.sp, .int .i64 a0.pu, .int .i64 a0.br, .int .i64 a0.dr, .int .i64 a0.lv, .int .i64 a0.dO, .int .i64 a0.ld, .int .i64 a0.qu]) ∧ Blk w'' (w.heap.size + 1) ([.int .i64 a2.nx, .slice p2 a2.ps.length n2]) ∧ Blk w'' (w.heap.size + 2) ([.int .i64 a3.nx, .slice p3 a3.ps.length n3]))) (by kernel_rfl) (by (try dsimp only); first | exact ⟨F0.out, F1.out, F2.out⟩ | go_keep) (fun hHeld => ?_)
    obtain ⟨v_1, hw1⟩ : ∃ v_1, v_1 = w2.drew := ⟨_, rfl⟩
    have F0 : Hid (Blk v_1 w.heap.size [.int .i64 a0.fl, .int .i64 a0.gp, .int .i64 a0.ln, .int .i64 a0.rf, .int .i64 a0.sp, .int .i64 a0.pu, .int .i64 a0.br, .int .i64 a0.dr, .int .i64 a0.lv, .int .i64 a0.dO, .int .i64 a0.ld, .int .i64 a0.qu]) := by rw [hw1]; exact F0.out
    have F1 : Hid (Blk v_1 (w.heap.size + 1) [.int .i64 a2.nx, .slice p2 a2.ps.length n2]) := by rw [hw1]; exact F1.out
    have F2 : Hid (Blk v_1 (w.heap.size + 2) [.int .i64 a3.nx, .slice p3 a3.ps.length n3]) := by rw [hw1]; exact F2.out
    have FB : Hid (Below w.heap.size w v_1) := by rw [hw1]; exact FB.out
    rw [← hw1] at hHeld ⊢
    clear hw1
    refine tkz 0 rfl ?_ (hy := Or.inl ⟨by kernel_rfl, fun wx hSw => exec_load_blk 23 _ Try.underlying23 (by kernel_rfl) rfl rfl hSw.1⟩)
    refine tkz 2 rfl ?_
    refine tkz 3 rfl ?_ (hy := Or.inl ⟨by kernel_rfl, fun wx hSw => exec_load_blk 26 _ Try.underlying26 (by kernel_rfl) rfl rfl hSw.2.1⟩)
    refine tkz 5 rfl ?_ (hy := Or.inl ⟨by kernel_rfl, fun wx hSw => exec_load_blk 26 _ Try.underlying26 (by kernel_rfl) rfl rfl hSw.2.2⟩)
    refine wpAnyH_ready (rs := [1, 8]) (by kernel_rfl) (by simp) ?_
    refine (AllReadyH.cons rfl (fun K hK => ?_) (AllReadyH.cons rfl (fun K hK => ?_) AllReadyH.nil))
    · go_simp
      refine (toHouse_any a0 _).mono ?_
      rintro e v_2 ⟨rfl, hb⟩
      have F0 : Hid (Blk v_2 w.heap.size [.int .i64 a0.fl, .int .i64 a0.gp, .int .i64 a0.ln, .int .i64 a0.rf, .int .i64 a0.sp, .int .i64 a0.pu, .int .i64 a0.br, .int .i64 a0.dr, .int .i64 a0.lv, .int .i64 a0.dO, .int .i64 a0.ld, .int .i64 a0.qu]) := F0.out.below hb F0.out.lt
      have F1 : Hid (Blk v_2 (w.heap.size + 1) [.int .i64 a2.nx, .slice p2 a2.ps.length n2]) := F1.out.below hb F1.out.lt
      have F2 : Hid (Blk v_2 (w.heap.size + 2) [.int .i64 a3.nx, .slice p3 a3.ps.length n3]) := F2.out.below hb F2.out.lt
      have FB : Hid (Below w.heap.size w v_2) := FB.out.trans (hb.mono FB.out.size)
      clear hb
      try dsimp only
      refine hK.out _ _ (by (try dsimp only); first | exact ⟨F0.out, F1.out, F2.out⟩ | go_keep) (fun hHeld => ?_)
      clear hK K
      try simp only [Act.put, List.getElem_toArray, List.getElem_cons_succ, List.getElem_cons_zero, List.setIfInBounds_toArray, List.set_cons_zero, List.set_cons_succ]
      refine wpAnyH_ready (rs := [4, 8]) (by kernel_rfl) (by simp) ?_
      refine (AllReadyH.cons rfl (fun K hK => ?_) (AllReadyH.cons rfl (fun K hK => ?_) AllReadyH.nil))
      · go_simp
        refine (toLedger_any a2.nx p2 n2 a2.ps hl2 _ ((HP2.out.below FB.out (Nat.le_refl _)).mono FB.out.size)).mono ?_
        rintro e v_3 ⟨g0, rfl, ho, hb⟩
        have Ga : Hid (Ow v_3 w.heap.size g0 a2.ps.length a2.ps.length a2.ps) := ho.base FB.out.size
        have F0 : Hid (Blk v_3 w.heap.size [.int .i64 a0.fl, .int .i64 a0.gp, .int .i64 a0.ln, .int .i64 a0.rf, .int .i64 a0.sp, .int .i64 a0.pu, .int .i64 a0.br, .int .i64 a0.dr, .int .i64 a0.lv, .int .i64 a0.dO, .int .i64 a0.ld, .int .i64 a0.qu]) := F0.out.below hb F0.out.lt
        have F1 : Hid (Blk v_3 (w.heap.size + 1) [.int .i64 a2.nx, .slice p2 a2.ps.length n2]) := F1.out.below hb F1.out.lt
        have F2 : Hid (Blk v_3 (w.heap.size + 2) [.int .i64 a3.nx, .slice p3 a3.ps.length n3]) := F2.out.below hb F2.out.lt
        have FB : Hid (Below w.heap.size w v_3) := FB.out.trans (hb.mono FB.out.size)
        clear hb
        clear ho
        try dsimp only
        refine hK.out _ _ (by (try dsimp only); first | exact ⟨F0.out, F1.out, F2.out⟩ | go_keep) (fun hHeld => ?_)
        clear hK K
        try simp only [Act.put, List.getElem_toArray, List.getElem_cons_succ, List.getElem_cons_zero, List.setIfInBounds_toArray, List.set_cons_zero, List.set_cons_succ]
        refine wpAnyH_ready (rs := [6, 8]) (by kernel_rfl) (by simp) ?_
        refine (AllReadyH.cons rfl (fun K hK => ?_) (AllReadyH.cons rfl (fun K hK => ?_) AllReadyH.nil))
        · go_simp
          refine (toLedger_any a3.nx p3 n3 a3.ps hl3 _ ((HP3.out.below FB.out (Nat.le_refl _)).mono FB.out.size)).mono ?_
          rintro e v_4 ⟨g1, rfl, ho, hb⟩
          have Gb : Hid (Ow v_4 w.heap.size g1 a3.ps.length a3.ps.length a3.ps) := ho.base FB.out.size
          have F0 : Hid (Blk v_4 w.heap.size [.int .i64 a0.fl, .int .i64 a0.gp, .int .i64 a0.ln, .int .i64 a0.rf, .int .i64 a0.sp, .int .i64 a0.pu, .int .i64 a0.br, .int .i64 a0.dr, .int .i64 a0.lv, .int .i64 a0.dO, .int .i64 a0.ld, .int .i64 a0.qu]) := F0.out.below hb F0.out.lt
          have F1 : Hid (Blk v_4 (w.heap.size + 1) [.int .i64 a2.nx, .slice p2 a2.ps.length n2]) := F1.out.below hb F1.out.lt
          have F2 : Hid (Blk v_4 (w.heap.size + 2) [.int .i64 a3.nx, .slice p3 a3.ps.length n3]) := F2.out.below hb F2.out.lt
          have FB : Hid (Below w.heap.size w v_4) := FB.out.trans (hb.mono FB.out.size)
          have Ga : Hid (Ow v_4 w.heap.size g0 a2.ps.length a2.ps.length a2.ps) := Ga.out.below hb Ga.out.lt
          clear hb
          clear ho
          try dsimp only
          refine hK.out _ _ (by (try dsimp only); first | exact ⟨F0.out, F1.out, F2.out⟩ | go_keep) (fun hHeld => ?_)
          clear hK K
          try simp only [Act.put, List.getElem_toArray, List.getElem_cons_succ, List.getElem_cons_zero, List.setIfInBounds_toArray, List.set_cons_zero, List.set_cons_succ]
          refine wpAnyH_ready (rs := [7, 8]) (by kernel_rfl) (by simp) ?_
          refine (AllReadyH.cons rfl (fun K hK => ?_) (AllReadyH.cons rfl (fun K hK => ?_) AllReadyH.nil))
          · go_simp
            refine (CS w.heap.size g0 g1 _ Ga.out Gb.out).mono ?_
            rintro e v_5 ⟨s1, c1, rfl, ho, hb⟩
            first | (have nq1 : ∀ k, (Value.slice s1 rl.length c1).ownBlock = some k → r1 < k := fun k hk => Nat.lt_of_lt_of_le FZ.out.lt (ho.lt k hk).1) | skip
            have FO1 : Hid (OwnE v_5 w.heap.size (.slice s1 rl.length c1) rl) := ho.base FB.out.size
            have F0 : Hid (Blk v_5 w.heap.size [.int .i64 a0.fl, .int .i64 a0.gp, .int .i64 a0.ln, .int .i64 a0.rf, .int .i64 a0.sp, .int .i64 a0.pu, .int .i64 a0.br, .int .i64 a0.dr, .int .i64 a0.lv, .int .i64 a0.dO, .int .i64 a0.ld, .int .i64 a0.qu]) := F0.out.below hb F0.out.lt
            have F1 : Hid (Blk v_5 (w.heap.size + 1) [.int .i64 a2.nx, .slice p2 a2.ps.length n2]) := F1.out.below hb F1.out.lt
            have F2 : Hid (Blk v_5 (w.heap.size + 2) [.int .i64 a3.nx, .slice p3 a3.ps.length n3]) := F2.out.below hb F2.out.lt
            have FB : Hid (Below w.heap.size w v_5) := FB.out.trans (hb.mono FB.out.size)
            have Ga : Hid (Ow v_5 w.heap.size g0 a2.ps.length a2.ps.length a2.ps) := Ga.out.below hb Ga.out.lt
            have Gb : Hid (Ow v_5 w.heap.size g1 a3.ps.length a3.ps.length a3.ps) := Gb.out.below hb Gb.out.lt
            clear hb
            clear ho
            try dsimp only
            refine hK.out _ _ (by (try dsimp only); first | exact ⟨F0.out, F1.out, F2.out⟩ | go_keep) (fun hHeld => ?_)
            clear hK K
            try simp only [Act.put, List.getElem_toArray, List.getElem_cons_succ, List.getElem_cons_zero, List.setIfInBounds_toArray, List.set_cons_zero, List.set_cons_succ]
            refine wpAnyH_ready (rs := [8]) (by kernel_rfl) (by simp) ?_
            refine (AllReadyH.cons rfl (fun K hK => ?_) AllReadyH.nil)
            go_simp
            obtain ⟨r1, hbb⟩ : ∃ r1, r1 = v_5.heap.size := ⟨_, rfl⟩
            obtain ⟨v_6, hw2⟩ : ∃ v_6, v_6 = v_5.alloc (.cells #[.int .i64 0, .int .i64 0, .slice none 0 0] 30) := ⟨_, rfl⟩
            have nr1_0 := F0.out.lt
            rw [← hbb] at nr1_0
            have nr1_1 := F1.out.lt
            rw [← hbb] at nr1_1
            have nr1_2 := F2.out.lt
            rw [← hbb] at nr1_2
            have nr1_4 := Ga.out.lt
            rw [← hbb] at nr1_4
            have nr1_5 := Gb.out.lt
            rw [← hbb] at nr1_5
            have nr1_oFO1 := fun k hk => (FO1.out.lt k hk).2
            rw [← hbb] at nr1_oFO1
            have FZ : Hid (Blk v_6 r1 [.int .i64 0, .int .i64 0, .slice none 0 0]) := by rw [hw2]; exact Blk.at_ _ _ _ _ hbb
            have F0 : Hid (Blk v_6 w.heap.size [.int .i64 a0.fl, .int .i64 a0.gp, .int .i64 a0.ln, .int .i64 a0.rf, .int .i64 a0.sp, .int .i64 a0.pu, .int .i64 a0.br, .int .i64 a0.dr, .int .i64 a0.lv, .int .i64 a0.dO, .int .i64 a0.ld, .int .i64 a0.qu]) := by rw [hw2]; exact F0.out.alloc _
            have F1 : Hid (Blk v_6 (w.heap.size + 1) [.int .i64 a2.nx, .slice p2 a2.ps.length n2]) := by rw [hw2]; exact F1.out.alloc _
            have F2 : Hid (Blk v_6 (w.heap.size + 2) [.int .i64 a3.nx, .slice p3 a3.ps.length n3]) := by rw [hw2]; exact F2.out.alloc _
            have FB : Hid (Below w.heap.size w v_6) := by rw [hw2]; exact FB.out.alloc FB.out.size _
            have Ga : Hid (Ow v_6 w.heap.size g0 a2.ps.length a2.ps.length a2.ps) := by rw [hw2]; exact Ga.out.alloc _
            have Gb : Hid (Ow v_6 w.heap.size g1 a3.ps.length a3.ps.length a3.ps) := by rw [hw2]; exact Gb.out.alloc _
            have FO1 : Hid (OwnE v_6 w.heap.size (.slice s1 rl.length c1) rl) := by rw [hw2]; exact FO1.out.alloc _
            rw [← hw2, ← hbb]
            clear hbb hw2
            refine hK.out _ _ (by (try dsimp only); first | exact ⟨F0.out, F1.out, F2.out⟩ | go_keep) (fun hHeld => ?_)
            clear hK K
            try simp only [Act.put, List.getElem_toArray, List.getElem_cons_succ, List.getElem_cons_zero, List.setIfInBounds_toArray, List.set_cons_zero, List.set_cons_succ]
            refine wpAnyH_ready (rs := [9]) (by kernel_rfl) (by simp) ?_
            refine (AllReadyH.cons rfl (fun K hK => ?_) AllReadyH.nil)
            have z0_ := FZ.out.c 0 _ rfl
            have z1_ := FZ.out.c 1 _ rfl
            have z2_ := FZ.out.c 2 _ rfl
            have y0_ := FZ.out.f 0 (Nat.le_of_ble_eq_true rfl)
            have y1_ := FZ.out.f 1 (Nat.le_of_ble_eq_true rfl)
            have y2_ := FZ.out.f 2 (Nat.le_of_ble_eq_true rfl)
            go_simp
            obtain ⟨v_7, hw2⟩ : ∃ v_7, v_7 = putB v_6 r1 0 [.int .i64 rk, .int .i64 0, .slice s1 rl.length c1] := ⟨_, rfl⟩
            change K _ (putB v_6 r1 0 [.int .i64 rk, .int .i64 0, .slice s1 rl.length c1])
            rw [← hw2]
            clear z0_ z1_ z2_ y0_ y1_ y2_
            have F0 : Hid (Blk v_7 w.heap.size [.int .i64 a0.fl, .int .i64 a0.gp, .int .i64 a0.ln, .int .i64 a0.rf, .int .i64 a0.sp, .int .i64 a0.pu, .int .i64 a0.br, .int .i64 a0.dr, .int .i64 a0.lv, .int .i64 a0.dO, .int .i64 a0.ld, .int .i64 a0.qu]) := by rw [hw2]; exact Blk.putB_other (by omega) _ _ F0.out
            have F1 : Hid (Blk v_7 (w.heap.size + 1) [.int .i64 a2.nx, .slice p2 a2.ps.length n2]) := by rw [hw2]; exact Blk.putB_other (by omega) _ _ F1.out
            have F2 : Hid (Blk v_7 (w.heap.size + 2) [.int .i64 a3.nx, .slice p3 a3.ps.length n3]) := by rw [hw2]; exact Blk.putB_other (by omega) _ _ F2.out
            have FB : Hid (Below w.heap.size w v_7) := by rw [hw2]; exact below_putB FB.out (by omega) _ _
            have FO1 : Hid (OwnE v_7 w.heap.size (.slice s1 rl.length c1) rl) := by rw [hw2]; exact OwnE.putB (by intro k hk; first | (have := nq1 k hk; omega) | (have := nr1_oFO1 k hk; omega)) _ _ _ FO1.out
            have FZ : Hid (Blk v_7 r1 [.int .i64 rk, .int .i64 0, .slice s1 rl.length c1]) := by rw [hw2]; exact FZ.out.put _ rfl
            clear hw2
            refine hK.out _ _ (by (try dsimp only); first | exact ⟨F0.out, F1.out, F2.out⟩ | go_keep) (fun hHeld => ?_)
            clear hK K
            try simp only [Act.put, List.getElem_toArray, List.getElem_cons_succ, List.getElem_cons_zero, List.setIfInBounds_toArray, List.set_cons_zero, List.set_cons_succ]
            refine wpAnyH_done (by kernel_rfl) ?_ _
            go_wp2_with fail
            go_meet
            case rel => exact ⟨r1, s1, c1, rfl, F0.out, F1.out, F2.out, FB.out, FZ.out, FO1.out⟩
          · go_simp
            obtain ⟨r1, hbb⟩ : ∃ r1, r1 = v_4.heap.size := ⟨_, rfl⟩
            obtain ⟨v_8, hw2⟩ : ∃ v_8, v_8 = v_4.alloc (.cells #[.int .i64 0, .int .i64 0, .slice none 0 0] 30) := ⟨_, rfl⟩
            have nr1_0 := F0.out.lt
            rw [← hbb] at nr1_0
            have nr1_1 := F1.out.lt
            rw [← hbb] at nr1_1
            have nr1_2 := F2.out.lt
            rw [← hbb] at nr1_2
            have nr1_4 := Ga.out.lt
            rw [← hbb] at nr1_4
            have nr1_5 := Gb.out.lt
            rw [← hbb] at nr1_5
            have FZ : Hid (Blk v_8 r1 [.int .i64 0, .int .i64 0, .slice none 0 0]) := by rw [hw2]; exact Blk.at_ _ _ _ _ hbb
            have F0 : Hid (Blk v_8 w.heap.size [.int .i64 a0.fl, .int .i64 a0.gp, .int .i64 a0.ln, .int .i64 a0.rf, .int .i64 a0.sp, .int .i64 a0.pu, .int .i64 a0.br, .int .i64 a0.dr, .int .i64 a0.lv, .int .i64 a0.dO, .int .i64 a0.ld, .int .i64 a0.qu]) := by rw [hw2]; exact F0.out.alloc _
            have F1 : Hid (Blk v_8 (w.heap.size + 1) [.int .i64 a2.nx, .slice p2 a2.ps.length n2]) := by rw [hw2]; exact F1.out.alloc _
            have F2 : Hid (Blk v_8 (w.heap.size + 2) [.int .i64 a3.nx, .slice p3 a3.ps.length n3]) := by rw [hw2]; exact F2.out.alloc _
            have FB : Hid (Below w.heap.size w v_8) := by rw [hw2]; exact FB.out.alloc FB.out.size _
            have Ga : Hid (Ow v_8 w.heap.size g0 a2.ps.length a2.ps.length a2.ps) := by rw [hw2]; exact Ga.out.alloc _
            have Gb : Hid (Ow v_8 w.heap.size g1 a3.ps.length a3.ps.length a3.ps) := by rw [hw2]; exact Gb.out.alloc _
            rw [← hw2, ← hbb]
            clear hbb hw2
            refine hK.out _ _ (by (try dsimp only); first | exact ⟨F0.out, F1.out, F2.out⟩ | go_keep) (fun hHeld => ?_)
            clear hK K
            try simp only [Act.put, List.getElem_toArray, List.getElem_cons_succ, List.getElem_cons_zero, List.setIfInBounds_toArray, List.set_cons_zero, List.set_cons_succ]
            refine wpAnyH_ready (rs := [7]) (by kernel_rfl) (by simp) ?_
            refine (AllReadyH.cons rfl (fun K hK => ?_) AllReadyH.nil)
            go_simp
            refine (CS w.heap.size g0 g1 _ Ga.out Gb.out).mono ?_
            rintro e v_9 ⟨s1, c1, rfl, ho, hb⟩
            first | (have nq1 : ∀ k, (Value.slice s1 rl.length c1).ownBlock = some k → r1 < k := fun k hk => Nat.lt_of_lt_of_le FZ.out.lt (ho.lt k hk).1) | skip
            have FO1 : Hid (OwnE v_9 w.heap.size (.slice s1 rl.length c1) rl) := ho.base FB.out.size
            have F0 : Hid (Blk v_9 w.heap.size [.int .i64 a0.fl, .int .i64 a0.gp, .int .i64 a0.ln, .int .i64 a0.rf, .int .i64 a0.sp, .int .i64 a0.pu, .int .i64 a0.br, .int .i64 a0.dr, .int .i64 a0.lv, .int .i64 a0.dO, .int .i64 a0.ld, .int .i64 a0.qu]) := F0.out.below hb F0.out.lt
            have F1 : Hid (Blk v_9 (w.heap.size + 1) [.int .i64 a2.nx, .slice p2 a2.ps.length n2]) := F1.out.below hb F1.out.lt
            have F2 : Hid (Blk v_9 (w.heap.size + 2) [.int .i64 a3.nx, .slice p3 a3.ps.length n3]) := F2.out.below hb F2.out.lt
            have FB : Hid (Below w.heap.size w v_9) := FB.out.trans (hb.mono FB.out.size)
            have Ga : Hid (Ow v_9 w.heap.size g0 a2.ps.length a2.ps.length a2.ps) := Ga.out.below hb Ga.out.lt
            have Gb : Hid (Ow v_9 w.heap.size g1 a3.ps.length a3.ps.length a3.ps) := Gb.out.below hb Gb.out.lt
            have FZ : Hid (Blk v_9 r1 [.int .i64 0, .int .i64 0, .slice none 0 0]) := FZ.out.below hb FZ.out.lt
            clear hb
            clear ho
            try dsimp only
            refine hK.out _ _ (by (try dsimp only); first | exact ⟨F0.out, F1.out, F2.out⟩ | go_keep) (fun hHeld => ?_)
            clear hK K
            try simp only [Act.put, List.getElem_toArray, List.getElem_cons_succ, List.getElem_cons_zero, List.setIfInBounds_toArray, List.set_cons_zero, List.set_cons_succ]
            refine wpAnyH_ready (rs := [9]) (by kernel_rfl) (by simp) ?_
            refine (AllReadyH.cons rfl (fun K hK => ?_) AllReadyH.nil)
            have z0_ := FZ.out.c 0 _ rfl
            have z1_ := FZ.out.c 1 _ rfl
            have z2_ := FZ.out.c 2 _ rfl
            have y0_ := FZ.out.f 0 (Nat.le_of_ble_eq_true rfl)
            have y1_ := FZ.out.f 1 (Nat.le_of_ble_eq_true rfl)
            have y2_ := FZ.out.f 2 (Nat.le_of_ble_eq_true rfl)
            go_simp
            obtain ⟨v_10, hw2⟩ : ∃ v_10, v_10 = putB v_9 r1 0 [.int .i64 rk, .int .i64 0, .slice s1 rl.length c1] := ⟨_, rfl⟩
            change K _ (putB v_9 r1 0 [.int .i64 rk, .int .i64 0, .slice s1 rl.length c1])
            rw [← hw2]
            clear z0_ z1_ z2_ y0_ y1_ y2_
            have F0 : Hid (Blk v_10 w.heap.size [.int .i64 a0.fl, .int .i64 a0.gp, .int .i64 a0.ln, .int .i64 a0.rf, .int .i64 a0.sp, .int .i64 a0.pu, .int .i64 a0.br, .int .i64 a0.dr, .int .i64 a0.lv, .int .i64 a0.dO, .int .i64 a0.ld, .int .i64 a0.qu]) := by rw [hw2]; exact Blk.putB_other (by omega) _ _ F0.out
            have F1 : Hid (Blk v_10 (w.heap.size + 1) [.int .i64 a2.nx, .slice p2 a2.ps.length n2]) := by rw [hw2]; exact Blk.putB_other (by omega) _ _ F1.out
            have F2 : Hid (Blk v_10 (w.heap.size + 2) [.int .i64 a3.nx, .slice p3 a3.ps.length n3]) := by rw [hw2]; exact Blk.putB_other (by omega) _ _ F2.out
            have FB : Hid (Below w.heap.size w v_10) := by rw [hw2]; exact below_putB FB.out (by omega) _ _
            have FZ : Hid (Blk v_10 r1 [.int .i64 rk, .int .i64 0, .slice s1 rl.length c1]) := by rw [hw2]; exact FZ.out.put _ rfl
            have FO1 : Hid (OwnE v_10 w.heap.size (.slice s1 rl.length c1) rl) := by rw [hw2]; exact OwnE.putB (by intro k hk; first | (have := nq1 k hk; omega) | (have := nr1_oFO1 k hk; omega)) _ _ _ FO1.out
            clear hw2
            refine hK.out _ _ (by (try dsimp only); first | exact ⟨F0.out, F1.out, F2.out⟩ | go_keep) (fun hHeld => ?_)
            clear hK K
            try simp only [Act.put, List.getElem_toArray, List.getElem_cons_succ, List.getElem_cons_zero, List.setIfInBounds_toArray, List.set_cons_zero, List.set_cons_succ]
            refine wpAnyH_done (by kernel_rfl) ?_ _
            go_wp2_with fail
            go_meet
            case rel => exact ⟨r1, s1, c1, rfl, F0.out, F1.out, F2.out, FB.out, FZ.out, FO1.out⟩
        · go_simp
          obtain ⟨r1, hbb⟩ : ∃ r1, r1 = v_3.heap.size := ⟨_, rfl⟩
          obtain ⟨v_11, hw2⟩ : ∃ v_11, v_11 = v_3.alloc (.cells #[.int .i64 0, .int .i64 0, .slice none 0 0] 30) := ⟨_, rfl⟩
          have nr1_0 := F0.out.lt
          rw [← hbb] at nr1_0
          have nr1_1 := F1.out.lt
          rw [← hbb] at nr1_1
          have nr1_2 := F2.out.lt
          rw [← hbb] at nr1_2
          have nr1_4 := Ga.out.lt
          rw [← hbb] at nr1_4
          have FZ : Hid (Blk v_11 r1 [.int .i64 0, .int .i64 0, .slice none 0 0]) := by rw [hw2]; exact Blk.at_ _ _ _ _ hbb
          have F0 : Hid (Blk v_11 w.heap.size [.int .i64 a0.fl, .int .i64 a0.gp, .int .i64 a0.ln, .int .i64 a0.rf, .int .i64 a0.sp, .int .i64 a0.pu, .int .i64 a0.br, .int .i64 a0.dr, .int .i64 a0.lv, .int .i64 a0.dO, .int .i64 a0.ld, .int .i64 a0.qu]) := by rw [hw2]; exact F0.out.alloc _
          have F1 : Hid (Blk v_11 (w.heap.size + 1) [.int .i64 a2.nx, .slice p2 a2.ps.length n2]) := by rw [hw2]; exact F1.out.alloc _
          have F2 : Hid (Blk v_11 (w.heap.size + 2) [.int .i64 a3.nx, .slice p3 a3.ps.length n3]) := by rw [hw2]; exact F2.out.alloc _
          have FB : Hid (Below w.heap.size w v_11) := by rw [hw2]; exact FB.out.alloc FB.out.size _
          have Ga : Hid (Ow v_11 w.heap.size g0 a2.ps.length a2.ps.length a2.ps) := by rw [hw2]; exact Ga.out.alloc _
          rw [← hw2, ← hbb]
          clear hbb hw2
          refine hK.out _ _ (by (try dsimp only); first | exact ⟨F0.out, F1.out, F2.out⟩ | go_keep) (fun hHeld => ?_)
          clear hK K
          try simp only [Act.put, List.getElem_toArray, List.getElem_cons_succ, List.getElem_cons_zero, List.setIfInBounds_toArray, List.set_cons_zero, List.set_cons_succ]
          refine wpAnyH_ready (rs := [6]) (by kernel_rfl) (by simp) ?_
          refine (AllReadyH.cons rfl (fun K hK => ?_) AllReadyH.nil)
          go_simp
          refine (toLedger_any a3.nx p3 n3 a3.ps hl3 _ ((HP3.out.below FB.out (Nat.le_refl _)).mono FB.out.size)).mono ?_
          rintro e v_12 ⟨g1, rfl, ho, hb⟩
          have Gb : Hid (Ow v_12 w.heap.size g1 a3.ps.length a3.ps.length a3.ps) := ho.base FB.out.size
          have F0 : Hid (Blk v_12 w.heap.size [.int .i64 a0.fl, .int .i64 a0.gp, .int .i64 a0.ln, .int .i64 a0.rf, .int .i64 a0.sp, .int .i64 a0.pu, .int .i64 a0.br, .int .i64 a0.dr, .int .i64 a0.lv, .int .i64 a0.dO, .int .i64 a0.ld, .int .i64 a0.qu]) := F0.out.below hb F0.out.lt
          have F1 : Hid (Blk v_12 (w.heap.size + 1) [.int .i64 a2.nx, .slice p2 a2.ps.length n2]) := F1.out.below hb F1.out.lt
          have F2 : Hid (Blk v_12 (w.heap.size + 2) [.int .i64 a3.nx, .slice p3 a3.ps.length n3]) := F2.out.below hb F2.out.lt
          have FB : Hid (Below w.heap.size w v_12) := FB.out.trans (hb.mono FB.out.size)
          have Ga : Hid (Ow v_12 w.heap.size g0 a2.ps.length a2.ps.length a2.ps) := Ga.out.below hb Ga.out.lt
          have FZ : Hid (Blk v_12 r1 [.int .i64 0, .int .i64 0, .slice none 0 0]) := FZ.out.below hb FZ.out.lt
          clear hb
          clear ho
          try dsimp only
          refine hK.out _ _ (by (try dsimp only); first | exact ⟨F0.out, F1.out, F2.out⟩ | go_keep) (fun hHeld => ?_)
          clear hK K
          try simp only [Act.put, List.getElem_toArray, List.getElem_cons_succ, List.getElem_cons_zero, List.setIfInBounds_toArray, List.set_cons_zero, List.set_cons_succ]
          refine wpAnyH_ready (rs := [7]) (by kernel_rfl) (by simp) ?_
          refine (AllReadyH.cons rfl (fun K hK => ?_) AllReadyH.nil)
          go_simp
          refine (CS w.heap.size g0 g1 _ Ga.out Gb.out).mono ?_
          rintro e v_13 ⟨s1, c1, rfl, ho, hb⟩
          first | (have nq1 : ∀ k, (Value.slice s1 rl.length c1).ownBlock = some k → r1 < k := fun k hk => Nat.lt_of_lt_of_le FZ.out.lt (ho.lt k hk).1) | skip
          have FO1 : Hid (OwnE v_13 w.heap.size (.slice s1 rl.length c1) rl) := ho.base FB.out.size
          have F0 : Hid (Blk v_13 w.heap.size [.int .i64 a0.fl, .int .i64 a0.gp, .int .i64 a0.ln, .int .i64 a0.rf, .int .i64 a0.sp, .int .i64 a0.pu, .int .i64 a0.br, .int .i64 a0.dr, .int .i64 a0.lv, .int .i64 a0.dO, .int .i64 a0.ld, .int .i64 a0.qu]) := F0.out.below hb F0.out.lt
          have F1 : Hid (Blk v_13 (w.heap.size + 1) [.int .i64 a2.nx, .slice p2 a2.ps.length n2]) := F1.out.below hb F1.out.lt
          have F2 : Hid (Blk v_13 (w.heap.size + 2) [.int .i64 a3.nx, .slice p3 a3.ps.length n3]) := F2.out.below hb F2.out.lt
          have FB : Hid (Below w.heap.size w v_13) := FB.out.trans (hb.mono FB.out.size)
          have Ga : Hid (Ow v_13 w.heap.size g0 a2.ps.length a2.ps.length a2.ps) := Ga.out.below hb Ga.out.lt
          have FZ : Hid (Blk v_13 r1 [.int .i64 0, .int .i64 0, .slice none 0 0]) := FZ.out.below hb FZ.out.lt
          have Gb : Hid (Ow v_13 w.heap.size g1 a3.ps.length a3.ps.length a3.ps) := Gb.out.below hb Gb.out.lt
          clear hb
          clear ho
          try dsimp only
          refine hK.out _ _ (by (try dsimp only); first | exact ⟨F0.out, F1.out, F2.out⟩ | go_keep) (fun hHeld => ?_)
          clear hK K
          try simp only [Act.put, List.getElem_toArray, List.getElem_cons_succ, List.getElem_cons_zero, List.setIfInBounds_toArray, List.set_cons_zero, List.set_cons_succ]
          refine wpAnyH_ready (rs := [9]) (by kernel_rfl) (by simp) ?_
          refine (AllReadyH.cons rfl (fun K hK => ?_) AllReadyH.nil)
          have z0_ := FZ.out.c 0 _ rfl
          have z1_ := FZ.out.c 1 _ rfl
          have z2_ := FZ.out.c 2 _ rfl
          have y0_ := FZ.out.f 0 (Nat.le_of_ble_eq_true rfl)
          have y1_ := FZ.out.f 1 (Nat.le_of_ble_eq_true rfl)
          have y2_ := FZ.out.f 2 (Nat.le_of_ble_eq_true rfl)
          go_simp
          obtain ⟨v_14, hw2⟩ : ∃ v_14, v_14 = putB v_13 r1 0 [.int .i64 rk, .int .i64 0, .slice s1 rl.length c1] := ⟨_, rfl⟩
          change K _ (putB v_13 r1 0 [.int .i64 rk, .int .i64 0, .slice s1 rl.length c1])
          rw [← hw2]
          clear z0_ z1_ z2_ y0_ y1_ y2_
          have F0 : Hid (Blk v_14 w.heap.size [.int .i64 a0.fl, .int .i64 a0.gp, .int .i64 a0.ln, .int .i64 a0.rf, .int .i64 a0.sp, .int .i64 a0.pu, .int .i64 a0.br, .int .i64 a0.dr, .int .i64 a0.lv, .int .i64 a0.dO, .int .i64 a0.ld, .int .i64 a0.qu]) := by rw [hw2]; exact Blk.putB_other (by omega) _ _ F0.out
          have F1 : Hid (Blk v_14 (w.heap.size + 1) [.int .i64 a2.nx, .slice p2 a2.ps.length n2]) := by rw [hw2]; exact Blk.putB_other (by omega) _ _ F1.out
          have F2 : Hid (Blk v_14 (w.heap.size + 2) [.int .i64 a3.nx, .slice p3 a3.ps.length n3]) := by rw [hw2]; exact Blk.putB_other (by omega) _ _ F2.out
          have FB : Hid (Below w.heap.size w v_14) := by rw [hw2]; exact below_putB FB.out (by omega) _ _
          have FZ : Hid (Blk v_14 r1 [.int .i64 rk, .int .i64 0, .slice s1 rl.length c1]) := by rw [hw2]; exact FZ.out.put _ rfl
          have FO1 : Hid (OwnE v_14 w.heap.size (.slice s1 rl.length c1) rl) := by rw [hw2]; exact OwnE.putB (by intro k hk; first | (have := nq1 k hk; omega) | (have := nr1_oFO1 k hk; omega)) _ _ _ FO1.out
          clear hw2
          refine hK.out _ _ (by (try dsimp only); first | exact ⟨F0.out, F1.out, F2.out⟩ | go_keep) (fun hHeld => ?_)
          clear hK K
          try simp only [Act.put, List.getElem_toArray, List.getElem_cons_succ, List.getElem_cons_zero, List.setIfInBounds_toArray, List.set_cons_zero, List.set_cons_succ]
          refine wpAnyH_done (by kernel_rfl) ?_ _
          go_wp2_with fail
          go_meet
          case rel => exact ⟨r1, s1, c1, rfl, F0.out, F1.out, F2.out, FB.out, FZ.out, FO1.out⟩
      · go_simp
        obtain ⟨r1, hbb⟩ : ∃ r1, r1 = v_2.heap.size := ⟨_, rfl⟩
        obtain ⟨v_15, hw2⟩ : ∃ v_15, v_15 = v_2.alloc (.cells #[.int .i64 0, .int .i64 0, .slice none 0 0] 30) := ⟨_, rfl⟩
        have nr1_0 := F0.out.lt
        rw [← hbb] at nr1_0
        have nr1_1 := F1.out.lt
        rw [← hbb] at nr1_1
        have nr1_2 := F2.out.lt
        rw [← hbb] at nr1_2
        have FZ : Hid (Blk v_15 r1 [.int .i64 0, .int .i64 0, .slice none 0 0]) := by rw [hw2]; exact Blk.at_ _ _ _ _ hbb
        have F0 : Hid (Blk v_15 w.heap.size [.int .i64 a0.fl, .int .i64 a0.gp, .int .i64 a0.ln, .int .i64 a0.rf, .int .i64 a0.sp, .int .i64 a0.pu, .int .i64 a0.br, .int .i64 a0.dr, .int .i64 a0.lv, .int .i64 a0.dO, .int .i64 a0.ld, .int .i64 a0.qu]) := by rw [hw2]; exact F0.out.alloc _
        have F1 : Hid (Blk v_15 (w.heap.size + 1) [.int .i64 a2.nx, .slice p2 a2.ps.length n2]) := by rw [hw2]; exact F1.out.alloc _
        have F2 : Hid (Blk v_15 (w.heap.size + 2) [.int .i64 a3.nx, .slice p3 a3.ps.length n3]) := by rw [hw2]; exact F2.out.alloc _
        have FB : Hid (Below w.heap.size w v_15) := by rw [hw2]; exact FB.out.alloc FB.out.size _
        rw [← hw2, ← hbb]
        clear hbb hw2
        refine hK.out _ _ (by (try dsimp only); first | exact ⟨F0.out, F1.out, F2.out⟩ | go_keep) (fun hHeld => ?_)
        clear hK K
        try simp only [Act.put, List.getElem_toArray, List.getElem_cons_succ, List.getElem_cons_zero, List.setIfInBounds_toArray, List.set_cons_zero, List.set_cons_succ]
        refine wpAnyH_ready (rs := [4]) (by kernel_rfl) (by simp) ?_
        refine (AllReadyH.cons rfl (fun K hK => ?_) AllReadyH.nil)
        go_simp
        refine (toLedger_any a2.nx p2 n2 a2.ps hl2 _ ((HP2.out.below FB.out (Nat.le_refl _)).mono FB.out.size)).mono ?_
        rintro e v_16 ⟨g0, rfl, ho, hb⟩
        have Ga : Hid (Ow v_16 w.heap.size g0 a2.ps.length a2.ps.length a2.ps) := ho.base FB.out.size
        have F0 : Hid (Blk v_16 w.heap.size [.int .i64 a0.fl, .int .i64 a0.gp, .int .i64 a0.ln, .int .i64 a0.rf, .int .i64 a0.sp, .int .i64 a0.pu, .int .i64 a0.br, .int .i64 a0.dr, .int .i64 a0.lv, .int .i64 a0.dO, .int .i64 a0.ld, .int .i64 a0.qu]) := F0.out.below hb F0.out.lt
        have F1 : Hid (Blk v_16 (w.heap.size + 1) [.int .i64 a2.nx, .slice p2 a2.ps.length n2]) := F1.out.below hb F1.out.lt
        have F2 : Hid (Blk v_16 (w.heap.size + 2) [.int .i64 a3.nx, .slice p3 a3.ps.length n3]) := F2.out.below hb F2.out.lt
        have FB : Hid (Below w.heap.size w v_16) := FB.out.trans (hb.mono FB.out.size)
        have FZ : Hid (Blk v_16 r1 [.int .i64 0, .int .i64 0, .slice none 0 0]) := FZ.out.below hb FZ.out.lt
        clear hb
        clear ho
        try dsimp only
        refine hK.out _ _ (by (try dsimp only); first | exact ⟨F0.out, F1.out, F2.out⟩ | go_keep) (fun hHeld => ?_)
        clear hK K
        try simp only [Act.put, List.getElem_toArray, List.getElem_cons_succ, List.getElem_cons_zero, List.setIfInBounds_toArray, List.set_cons_zero, List.set_cons_succ]
        refine wpAnyH_ready (rs := [6]) (by kernel_rfl) (by simp) ?_
        refine (AllReadyH.cons rfl (fun K hK => ?_) AllReadyH.nil)
        go_simp
        refine (toLedger_any a3.nx p3 n3 a3.ps hl3 _ ((HP3.out.below FB.out (Nat.le_refl _)).mono FB.out.size)).mono ?_
        rintro e v_17 ⟨g1, rfl, ho, hb⟩
        have Gb : Hid (Ow v_17 w.heap.size g1 a3.ps.length a3.ps.length a3.ps) := ho.base FB.out.size
        have F0 : Hid (Blk v_17 w.heap.size [.int .i64 a0.fl, .int .i64 a0.gp, .int .i64 a0.ln, .int .i64 a0.rf, .int .i64 a0.sp, .int .i64 a0.pu, .int .i64 a0.br, .int .i64 a0.dr, .int .i64 a0.lv, .int .i64 a0.dO, .int .i64 a0.ld, .int .i64 a0.qu]) := F0.out.below hb F0.out.lt
        have F1 : Hid (Blk v_17 (w.heap.size + 1) [.int .i64 a2.nx, .slice p2 a2.ps.length n2]) := F1.out.below hb F1.out.lt
        have F2 : Hid (Blk v_17 (w.heap.size + 2) [.int .i64 a3.nx, .slice p3 a3.ps.length n3]) := F2.out.below hb F2.out.lt
        have FB : Hid (Below w.heap.size w v_17) := FB.out.trans (hb.mono FB.out.size)
        have FZ : Hid (Blk v_17 r1 [.int .i64 0, .int .i64 0, .slice none 0 0]) := FZ.out.below hb FZ.out.lt
        have Ga : Hid (Ow v_17 w.heap.size g0 a2.ps.length a2.ps.length a2.ps) := Ga.out.below hb Ga.out.lt
        clear hb
        clear ho
        try dsimp only
        refine hK.out _ _ (by (try dsimp only); first | exact ⟨F0.out, F1.out, F2.out⟩ | go_keep) (fun hHeld => ?_)
        clear hK K
        try simp only [Act.put, List.getElem_toArray, List.getElem_cons_succ, List.getElem_cons_zero, List.setIfInBounds_toArray, List.set_cons_zero, List.set_cons_succ]
        refine wpAnyH_ready (rs := [7]) (by kernel_rfl) (by simp) ?_
        refine (AllReadyH.cons rfl (fun K hK => ?_) AllReadyH.nil)
        go_simp
        refine (CS w.heap.size g0 g1 _ Ga.out Gb.out).mono ?_
        rintro e v_18 ⟨s1, c1, rfl, ho, hb⟩
        first | (have nq1 : ∀ k, (Value.slice s1 rl.length c1).ownBlock = some k → r1 < k := fun k hk => Nat.lt_of_lt_of_le FZ.out.lt (ho.lt k hk).1) | skip
        have FO1 : Hid (OwnE v_18 w.heap.size (.slice s1 rl.length c1) rl) := ho.base FB.out.size
        have F0 : Hid (Blk v_18 w.heap.size [.int .i64 a0.fl, .int .i64 a0.gp, .int .i64 a0.ln, .int .i64 a0.rf, .int .i64 a0.sp, .int .i64 a0.pu, .int .i64 a0.br, .int .i64 a0.dr, .int .i64 a0.lv, .int .i64 a0.dO, .int .i64 a0.ld, .int .i64 a0.qu]) := F0.out.below hb F0.out.lt
        have F1 : Hid (Blk v_18 (w.heap.size + 1) [.int .i64 a2.nx, .slice p2 a2.ps.length n2]) := F1.out.below hb F1.out.lt
        have F2 : Hid (Blk v_18 (w.heap.size + 2) [.int .i64 a3.nx, .slice p3 a3.ps.length n3]) := F2.out.below hb F2.out.lt
        have FB : Hid (Below w.heap.size w v_18) := FB.out.trans (hb.mono FB.out.size)
        have FZ : Hid (Blk v_18 r1 [.int .i64 0, .int .i64 0, .slice none 0 0]) := FZ.out.below hb FZ.out.lt
        have Ga : Hid (Ow v_18 w.heap.size g0 a2.ps.length a2.ps.length a2.ps) := Ga.out.below hb Ga.out.lt
        have Gb : Hid (Ow v_18 w.heap.size g1 a3.ps.length a3.ps.length a3.ps) := Gb.out.below hb Gb.out.lt
        clear hb
        clear ho
        try dsimp only
        refine hK.out _ _ (by (try dsimp only); first | exact ⟨F0.out, F1.out, F2.out⟩ | go_keep) (fun hHeld => ?_)
        clear hK K
        try simp only [Act.put, List.getElem_toArray, List.getElem_cons_succ, List.getElem_cons_zero, List.setIfInBounds_toArray, List.set_cons_zero, List.set_cons_succ]
        refine wpAnyH_ready (rs := [9]) (by kernel_rfl) (by simp) ?_
        refine (AllReadyH.cons rfl (fun K hK => ?_) AllReadyH.nil)
        have z0_ := FZ.out.c 0 _ rfl
        have z1_ := FZ.out.c 1 _ rfl
        have z2_ := FZ.out.c 2 _ rfl
        have y0_ := FZ.out.f 0 (Nat.le_of_ble_eq_true rfl)
        have y1_ := FZ.out.f 1 (Nat.le_of_ble_eq_true rfl)
        have y2_ := FZ.out.f 2 (Nat.le_of_ble_eq_true rfl)
        go_simp
        obtain ⟨v_19, hw2⟩ : ∃ v_19, v_19 = putB v_18 r1 0 [.int .i64 rk, .int .i64 0, .slice s1 rl.length c1] := ⟨_, rfl⟩
        change K _ (putB v_18 r1 0 [.int .i64 rk, .int .i64 0, .slice s1 rl.length c1])
        rw [← hw2]
        clear z0_ z1_ z2_ y0_ y1_ y2_
        have F0 : Hid (Blk v_19 w.heap.size [.int .i64 a0.fl, .int .i64 a0.gp, .int .i64 a0.ln, .int .i64 a0.rf, .int .i64 a0.sp, .int .i64 a0.pu, .int .i64 a0.br, .int .i64 a0.dr, .int .i64 a0.lv, .int .i64 a0.dO, .int .i64 a0.ld, .int .i64 a0.qu]) := by rw [hw2]; exact Blk.putB_other (by omega) _ _ F0.out
        have F1 : Hid (Blk v_19 (w.heap.size + 1) [.int .i64 a2.nx, .slice p2 a2.ps.length n2]) := by rw [hw2]; exact Blk.putB_other (by omega) _ _ F1.out
        have F2 : Hid (Blk v_19 (w.heap.size + 2) [.int .i64 a3.nx, .slice p3 a3.ps.length n3]) := by rw [hw2]; exact Blk.putB_other (by omega) _ _ F2.out
        have FB : Hid (Below w.heap.size w v_19) := by rw [hw2]; exact below_putB FB.out (by omega) _ _
        have FZ : Hid (Blk v_19 r1 [.int .i64 rk, .int .i64 0, .slice s1 rl.length c1]) := by rw [hw2]; exact FZ.out.put _ rfl
        have FO1 : Hid (OwnE v_19 w.heap.size (.slice s1 rl.length c1) rl) := by rw [hw2]; exact OwnE.putB (by intro k hk; first | (have := nq1 k hk; omega) | (have := nr1_oFO1 k hk; omega)) _ _ _ FO1.out
        clear hw2
        refine hK.out _ _ (by (try dsimp only); first | exact ⟨F0.out, F1.out, F2.out⟩ | go_keep) (fun hHeld => ?_)
        clear hK K
        try simp only [Act.put, List.getElem_toArray, List.getElem_cons_succ, List.getElem_cons_zero, List.setIfInBounds_toArray, List.set_cons_zero, List.set_cons_succ]
        refine wpAnyH_done (by kernel_rfl) ?_ _
        go_wp2_with fail
        go_meet
        case rel => exact ⟨r1, s1, c1, rfl, F0.out, F1.out, F2.out, FB.out, FZ.out, FO1.out⟩
    · go_simp
      obtain ⟨r1, hbb⟩ : ∃ r1, r1 = v_1.heap.size := ⟨_, rfl⟩
      obtain ⟨v_20, hw2⟩ : ∃ v_20, v_20 = v_1.alloc (.cells #[.int .i64 0, .int .i64 0, .slice none 0 0] 30) := ⟨_, rfl⟩
      have nr1_0 := F0.out.lt
      rw [← hbb] at nr1_0
      have nr1_1 := F1.out.lt
      rw [← hbb] at nr1_1
      have nr1_2 := F2.out.lt
      rw [← hbb] at nr1_2
      have FZ : Hid (Blk v_20 r1 [.int .i64 0, .int .i64 0, .slice none 0 0]) := by rw [hw2]; exact Blk.at_ _ _ _ _ hbb
      have F0 : Hid (Blk v_20 w.heap.size [.int .i64 a0.fl, .int .i64 a0.gp, .int .i64 a0.ln, .int .i64 a0.rf, .int .i64 a0.sp, .int .i64 a0.pu, .int .i64 a0.br, .int .i64 a0.dr, .int .i64 a0.lv, .int .i64 a0.dO, .int .i64 a0.ld, .int .i64 a0.qu]) := by rw [hw2]; exact F0.out.alloc _
      have F1 : Hid (Blk v_20 (w.heap.size + 1) [.int .i64 a2.nx, .slice p2 a2.ps.length n2]) := by rw [hw2]; exact F1.out.alloc _
      have F2 : Hid (Blk v_20 (w.heap.size + 2) [.int .i64 a3.nx, .slice p3 a3.ps.length n3]) := by rw [hw2]; exact F2.out.alloc _
      have FB : Hid (Below w.heap.size w v_20) := by rw [hw2]; exact FB.out.alloc FB.out.size _
      rw [← hw2, ← hbb]
      clear hbb hw2
      refine hK.out _ _ (by (try dsimp only); first | exact ⟨F0.out, F1.out, F2.out⟩ | go_keep) (fun hHeld => ?_)
      clear hK K
      try simp only [Act.put, List.getElem_toArray, List.getElem_cons_succ, List.getElem_cons_zero, List.setIfInBounds_toArray, List.set_cons_zero, List.set_cons_succ]
      refine wpAnyH_ready (rs := [1]) (by kernel_rfl) (by simp) ?_
      refine (AllReadyH.cons rfl (fun K hK => ?_) AllReadyH.nil)
      go_simp
      refine (toHouse_any a0 _).mono ?_
      rintro e v_21 ⟨rfl, hb⟩
      have F0 : Hid (Blk v_21 w.heap.size [.int .i64 a0.fl, .int .i64 a0.gp, .int .i64 a0.ln, .int .i64 a0.rf, .int .i64 a0.sp, .int .i64 a0.pu, .int .i64 a0.br, .int .i64 a0.dr, .int .i64 a0.lv, .int .i64 a0.dO, .int .i64 a0.ld, .int .i64 a0.qu]) := F0.out.below hb F0.out.lt
      have F1 : Hid (Blk v_21 (w.heap.size + 1) [.int .i64 a2.nx, .slice p2 a2.ps.length n2]) := F1.out.below hb F1.out.lt
      have F2 : Hid (Blk v_21 (w.heap.size + 2) [.int .i64 a3.nx, .slice p3 a3.ps.length n3]) := F2.out.below hb F2.out.lt
      have FB : Hid (Below w.heap.size w v_21) := FB.out.trans (hb.mono FB.out.size)
      have FZ : Hid (Blk v_21 r1 [.int .i64 0, .int .i64 0, .slice none 0 0]) := FZ.out.below hb FZ.out.lt
      clear hb
      try dsimp only
      refine hK.out _ _ (by (try dsimp only); first | exact ⟨F0.out, F1.out, F2.out⟩ | go_keep) (fun hHeld => ?_)
      clear hK K
      try simp only [Act.put, List.getElem_toArray, List.getElem_cons_succ, List.getElem_cons_zero, List.setIfInBounds_toArray, List.set_cons_zero, List.set_cons_succ]
      refine wpAnyH_ready (rs := [4]) (by kernel_rfl) (by simp) ?_
      refine (AllReadyH.cons rfl (fun K hK => ?_) AllReadyH.nil)
      go_simp
      refine (toLedger_any a2.nx p2 n2 a2.ps hl2 _ ((HP2.out.below FB.out (Nat.le_refl _)).mono FB.out.size)).mono ?_
      rintro e v_22 ⟨g0, rfl, ho, hb⟩
      have Ga : Hid (Ow v_22 w.heap.size g0 a2.ps.length a2.ps.length a2.ps) := ho.base FB.out.size
      have F0 : Hid (Blk v_22 w.heap.size [.int .i64 a0.fl, .int .i64 a0.gp, .int .i64 a0.ln, .int .i64 a0.rf, .int .i64 a0.sp, .int .i64 a0.pu, .int .i64 a0.br, .int .i64 a0.dr, .int .i64 a0.lv, .int .i64 a0.dO, .int .i64 a0.ld, .int .i64 a0.qu]) := F0.out.below hb F0.out.lt
      have F1 : Hid (Blk v_22 (w.heap.size + 1) [.int .i64 a2.nx, .slice p2 a2.ps.length n2]) := F1.out.below hb F1.out.lt
      have F2 : Hid (Blk v_22 (w.heap.size + 2) [.int .i64 a3.nx, .slice p3 a3.ps.length n3]) := F2.out.below hb F2.out.lt
      have FB : Hid (Below w.heap.size w v_22) := FB.out.trans (hb.mono FB.out.size)
      have FZ : Hid (Blk v_22 r1 [.int .i64 0, .int .i64 0, .slice none 0 0]) := FZ.out.below hb FZ.out.lt
      clear hb
      clear ho
      try dsimp only
      refine hK.out _ _ (by (try dsimp only); first | exact ⟨F0.out, F1.out, F2.out⟩ | go_keep) (fun hHeld => ?_)
      clear hK K
      try simp only [Act.put, List.getElem_toArray, List.getElem_cons_succ, List.getElem_cons_zero, List.setIfInBounds_toArray, List.set_cons_zero, List.set_cons_succ]
      refine wpAnyH_ready (rs := [6]) (by kernel_rfl) (by simp) ?_
      refine (AllReadyH.cons rfl (fun K hK => ?_) AllReadyH.nil)
      go_simp
      refine (toLedger_any a3.nx p3 n3 a3.ps hl3 _ ((HP3.out.below FB.out (Nat.le_refl _)).mono FB.out.size)).mono ?_
      rintro e v_23 ⟨g1, rfl, ho, hb⟩
      have Gb : Hid (Ow v_23 w.heap.size g1 a3.ps.length a3.ps.length a3.ps) := ho.base FB.out.size
      have F0 : Hid (Blk v_23 w.heap.size [.int .i64 a0.fl, .int .i64 a0.gp, .int .i64 a0.ln, .int .i64 a0.rf, .int .i64 a0.sp, .int .i64 a0.pu, .int .i64 a0.br, .int .i64 a0.dr, .int .i64 a0.lv, .int .i64 a0.dO, .int .i64 a0.ld, .int .i64 a0.qu]) := F0.out.below hb F0.out.lt
      have F1 : Hid (Blk v_23 (w.heap.size + 1) [.int .i64 a2.nx, .slice p2 a2.ps.length n2]) := F1.out.below hb F1.out.lt
      have F2 : Hid (Blk v_23 (w.heap.size + 2) [.int .i64 a3.nx, .slice p3 a3.ps.length n3]) := F2.out.below hb F2.out.lt
      have FB : Hid (Below w.heap.size w v_23) := FB.out.trans (hb.mono FB.out.size)
      have FZ : Hid (Blk v_23 r1 [.int .i64 0, .int .i64 0, .slice none 0 0]) := FZ.out.below hb FZ.out.lt
      have Ga : Hid (Ow v_23 w.heap.size g0 a2.ps.length a2.ps.length a2.ps) := Ga.out.below hb Ga.out.lt
      clear hb
      clear ho
      try dsimp only
      refine hK.out _ _ (by (try dsimp only); first | exact ⟨F0.out, F1.out, F2.out⟩ | go_keep) (fun hHeld => ?_)
      clear hK K
      try simp only [Act.put, List.getElem_toArray, List.getElem_cons_succ, List.getElem_cons_zero, List.setIfInBounds_toArray, List.set_cons_zero, List.set_cons_succ]
      refine wpAnyH_ready (rs := [7]) (by kernel_rfl) (by simp) ?_
      refine (AllReadyH.cons rfl (fun K hK => ?_) AllReadyH.nil)
      go_simp
      refine (CS w.heap.size g0 g1 _ Ga.out Gb.out).mono ?_
      rintro e v_24 ⟨s1, c1, rfl, ho, hb⟩
      first | (have nq1 : ∀ k, (Value.slice s1 rl.length c1).ownBlock = some k → r1 < k := fun k hk => Nat.lt_of_lt_of_le FZ.out.lt (ho.lt k hk).1) | skip
      have FO1 : Hid (OwnE v_24 w.heap.size (.slice s1 rl.length c1) rl) := ho.base FB.out.size
      have F0 : Hid (Blk v_24 w.heap.size [.int .i64 a0.fl, .int .i64 a0.gp, .int .i64 a0.ln, .int .i64 a0.rf, .int .i64 a0.sp, .int .i64 a0.pu, .int .i64 a0.br, .int .i64 a0.dr, .int .i64 a0.lv, .int .i64 a0.dO, .int .i64 a0.ld, .int .i64 a0.qu]) := F0.out.below hb F0.out.lt
      have F1 : Hid (Blk v_24 (w.heap.size + 1) [.int .i64 a2.nx, .slice p2 a2.ps.length n2]) := F1.out.below hb F1.out.lt
      have F2 : Hid (Blk v_24 (w.heap.size + 2) [.int .i64 a3.nx, .slice p3 a3.ps.length n3]) := F2.out.below hb F2.out.lt
      have FB : Hid (Below w.heap.size w v_24) := FB.out.trans (hb.mono FB.out.size)
      have FZ : Hid (Blk v_24 r1 [.int .i64 0, .int .i64 0, .slice none 0 0]) := FZ.out.below hb FZ.out.lt
      have Ga : Hid (Ow v_24 w.heap.size g0 a2.ps.length a2.ps.length a2.ps) := Ga.out.below hb Ga.out.lt
      have Gb : Hid (Ow v_24 w.heap.size g1 a3.ps.length a3.ps.length a3.ps) := Gb.out.below hb Gb.out.lt
      clear hb
      clear ho
      try dsimp only
      refine hK.out _ _ (by (try dsimp only); first | exact ⟨F0.out, F1.out, F2.out⟩ | go_keep) (fun hHeld => ?_)
      clear hK K
      try simp only [Act.put, List.getElem_toArray, List.getElem_cons_succ, List.getElem_cons_zero, List.setIfInBounds_toArray, List.set_cons_zero, List.set_cons_succ]
      refine wpAnyH_ready (rs := [9]) (by kernel_rfl) (by simp) ?_
      refine (AllReadyH.cons rfl (fun K hK => ?_) AllReadyH.nil)
      have z0_ := FZ.out.c 0 _ rfl
      have z1_ := FZ.out.c 1 _ rfl
      have z2_ := FZ.out.c 2 _ rfl
      have y0_ := FZ.out.f 0 (Nat.le_of_ble_eq_true rfl)
      have y1_ := FZ.out.f 1 (Nat.le_of_ble_eq_true rfl)
      have y2_ := FZ.out.f 2 (Nat.le_of_ble_eq_true rfl)
      go_simp
      obtain ⟨v_25, hw2⟩ : ∃ v_25, v_25 = putB v_24 r1 0 [.int .i64 rk, .int .i64 0, .slice s1 rl.length c1] := ⟨_, rfl⟩
      change K _ (putB v_24 r1 0 [.int .i64 rk, .int .i64 0, .slice s1 rl.length c1])
      rw [← hw2]
      clear z0_ z1_ z2_ y0_ y1_ y2_
      have F0 : Hid (Blk v_25 w.heap.size [.int .i64 a0.fl, .int .i64 a0.gp, .int .i64 a0.ln, .int .i64 a0.rf, .int .i64 a0.sp, .int .i64 a0.pu, .int .i64 a0.br, .int .i64 a0.dr, .int .i64 a0.lv, .int .i64 a0.dO, .int .i64 a0.ld, .int .i64 a0.qu]) := by rw [hw2]; exact Blk.putB_other (by omega) _ _ F0.out
      have F1 : Hid (Blk v_25 (w.heap.size + 1) [.int .i64 a2.nx, .slice p2 a2.ps.length n2]) := by rw [hw2]; exact Blk.putB_other (by omega) _ _ F1.out
      have F2 : Hid (Blk v_25 (w.heap.size + 2) [.int .i64 a3.nx, .slice p3 a3.ps.length n3]) := by rw [hw2]; exact Blk.putB_other (by omega) _ _ F2.out
      have FB : Hid (Below w.heap.size w v_25) := by rw [hw2]; exact below_putB FB.out (by omega) _ _
      have FZ : Hid (Blk v_25 r1 [.int .i64 rk, .int .i64 0, .slice s1 rl.length c1]) := by rw [hw2]; exact FZ.out.put _ rfl
      have FO1 : Hid (OwnE v_25 w.heap.size (.slice s1 rl.length c1) rl) := by rw [hw2]; exact OwnE.putB (by intro k hk; first | (have := nq1 k hk; omega) | (have := nr1_oFO1 k hk; omega)) _ _ _ FO1.out
      clear hw2
      refine hK.out _ _ (by (try dsimp only); first | exact ⟨F0.out, F1.out, F2.out⟩ | go_keep) (fun hHeld => ?_)
      clear hK K
      try simp only [Act.put, List.getElem_toArray, List.getElem_cons_succ, List.getElem_cons_zero, List.setIfInBounds_toArray, List.set_cons_zero, List.set_cons_succ]
      refine wpAnyH_done (by kernel_rfl) ?_ _
      go_wp2_with fail
      go_meet
      case rel => exact ⟨r1, s1, c1, rfl, F0.out, F1.out, F2.out, FB.out, FZ.out, FO1.out⟩
  case rest =>
  obtain ⟨r1, s1, c1, rfl, hcut'⟩ := hcut
  obtain ⟨hF0, hF1, hF2, hFB, hFR1, hFO1⟩ := hcut'
  have F0 : Hid (Blk wc w.heap.size [.int .i64 a0.fl, .int .i64 a0.gp, .int .i64 a0.ln, .int .i64 a0.rf, .int .i64 a0.sp, .int .i64 a0.pu, .int .i64 a0.br, .int .i64 a0.dr, .int .i64 a0.lv, .int .i64 a0.dO, .int .i64 a0.ld, .int .i64 a0.qu]) := hF0
  have F1 : Hid (Blk wc (w.heap.size + 1) [.int .i64 a2.nx, .slice p2 a2.ps.length n2]) := hF1
  have F2 : Hid (Blk wc (w.heap.size + 2) [.int .i64 a3.nx, .slice p3 a3.ps.length n3]) := hF2
  have FB : Hid (Below w.heap.size w wc) := hFB
  have FR1 : Hid (Blk wc r1 [.int .i64 rk, .int .i64 0, .slice s1 rl.length c1]) := hFR1
  have FO1 : Hid (OwnE wc w.heap.size (.slice s1 rl.length c1) rl) := hFO1
  clear hF0 hF1 hF2 hFB hFR1 hFO1
  go_upto_region 10 with (first | (refine load_blk 26 _ Try.underlying26 (by kernel_rfl) F1.out rfl rfl rfl ?_) | (go_at_call 7; refine (toLedger_any a2.nx p2 n2 a2.ps hl2 _ ((HP2.out.below FB.out (Nat.le_refl _)).mono FB.out.size)).mono ?_; rintro e w3 ⟨g2, rfl, ho, hb⟩; have N1 : r1 < g2 := Nat.lt_of_lt_of_le FR1.out.lt ho.bl.1; have N2 : w.heap.size + 2 < g2 := Nat.lt_of_lt_of_le F2.out.lt ho.bl.1; have U1 : ∀ k, (Value.slice s1 rl.length c1).ownBlock = some k → k < g2 := fun k hk => Nat.lt_of_lt_of_le (FO1.out.lt k hk).2 ho.bl.1; have G2 : Hid (Ow w3 w.heap.size g2 a2.ps.length a2.ps.length a2.ps) := ho.base FB.out.size; have F0 : Hid (Blk w3 w.heap.size [.int .i64 a0.fl, .int .i64 a0.gp, .int .i64 a0.ln, .int .i64 a0.rf, .int .i64 a0.sp, .int .i64 a0.pu, .int .i64 a0.br, .int .i64 a0.dr, .int .i64 a0.lv, .int .i64 a0.dO, .int .i64 a0.ld, .int .i64 a0.qu]) := F0.out.below hb F0.out.lt; have F1 : Hid (Blk w3 (w.heap.size + 1) [.int .i64 a2.nx, .slice p2 a2.ps.length n2]) := F1.out.below hb F1.out.lt; have F2 : Hid (Blk w3 (w.heap.size + 2) [.int .i64 a3.nx, .slice p3 a3.ps.length n3]) := F2.out.below hb F2.out.lt; have FB : Hid (Below w.heap.size w w3) := FB.out.trans (hb.mono FB.out.size); have FR1 : Hid (Blk w3 r1 [.int .i64 rk, .int .i64 0, .slice s1 rl.length c1]) := FR1.out.below hb FR1.out.lt; have FO1 : Hid (OwnE w3 w.heap.size (.slice s1 rl.length c1) rl) := FO1.out.below hb (fun k hk => (FO1.out.lt k hk).2); clear hb; clear ho) | (refine store_new [.int .i64 a2.nx, .slice (some ⟨g2, 0, none⟩) a2.ps.length a2.ps.length] 36 _ _ (by kernel_rfl) (by kernel_rfl) (by kernel_rfl) rfl rfl rfl rfl ?_))
  obtain ⟨x2, hb_⟩ : ∃ x, x = w3.heap.size := ⟨_, rfl⟩
  obtain ⟨w4, hw_⟩ : ∃ W, W = w3.alloc (.cells #[.int .i64 a2.nx, .slice (some ⟨g2, 0, none⟩) a2.ps.length a2.ps.length] 36) := ⟨_, rfl⟩
  have lx2_F0 := F0.out.lt
  have lx2_F1 := F1.out.lt
  have lx2_F2 := F2.out.lt
  have lx2_FR1 := FR1.out.lt
  have lx2_G2 := G2.out.lt
  rw [← hb_] at lx2_F0 lx2_F1 lx2_F2 lx2_FR1 lx2_G2
  have F0 : Hid (Blk w4 w.heap.size [.int .i64 a0.fl, .int .i64 a0.gp, .int .i64 a0.ln, .int .i64 a0.rf, .int .i64 a0.sp, .int .i64 a0.pu, .int .i64 a0.br, .int .i64 a0.dr, .int .i64 a0.lv, .int .i64 a0.dO, .int .i64 a0.ld, .int .i64 a0.qu]) := by rw [hw_]; exact F0.out.alloc _
  have F1 : Hid (Blk w4 (w.heap.size + 1) [.int .i64 a2.nx, .slice p2 a2.ps.length n2]) := by rw [hw_]; exact F1.out.alloc _
  have F2 : Hid (Blk w4 (w.heap.size + 2) [.int .i64 a3.nx, .slice p3 a3.ps.length n3]) := by rw [hw_]; exact F2.out.alloc _
  have FB : Hid (Below w.heap.size w w4) := by rw [hw_]; exact FB.out.alloc FB.out.size _
  have FR1 : Hid (Blk w4 r1 [.int .i64 rk, .int .i64 0, .slice s1 rl.length c1]) := by rw [hw_]; exact FR1.out.alloc _
  have FO1 : Hid (OwnE w4 w.heap.size (.slice s1 rl.length c1) rl) := by rw [hw_]; exact FO1.out.alloc _
  have G2 : Hid (Ow w4 w.heap.size g2 a2.ps.length a2.ps.length a2.ps) := by rw [hw_]; exact G2.out.alloc _
  have FX2 : Hid (Blk w4 x2 [.int .i64 a2.nx, .slice (some ⟨g2, 0, none⟩) a2.ps.length a2.ps.length]) := by rw [hw_]; exact Blk.at_ _ _ _ _ hb_
  rw [← hw_, ← hb_]
  clear hw_ hb_
  go_upto_region 11 with (first | (refine load_blk 26 _ Try.underlying26 (by kernel_rfl) F2.out rfl rfl rfl ?_) | (go_at_call 7; refine (toLedger_any a3.nx p3 n3 a3.ps hl3 _ ((HP3.out.below FB.out (Nat.le_refl _)).mono FB.out.size)).mono ?_; rintro e w5 ⟨g3, rfl, ho, hb⟩; have N3 : x2 < g3 := Nat.lt_of_lt_of_le FX2.out.lt ho.bl.1; have G3 : Hid (Ow w5 w.heap.size g3 a3.ps.length a3.ps.length a3.ps) := ho.base FB.out.size; have F0 : Hid (Blk w5 w.heap.size [.int .i64 a0.fl, .int .i64 a0.gp, .int .i64 a0.ln, .int .i64 a0.rf, .int .i64 a0.sp, .int .i64 a0.pu, .int .i64 a0.br, .int .i64 a0.dr, .int .i64 a0.lv, .int .i64 a0.dO, .int .i64 a0.ld, .int .i64 a0.qu]) := F0.out.below hb F0.out.lt; have F1 : Hid (Blk w5 (w.heap.size + 1) [.int .i64 a2.nx, .slice p2 a2.ps.length n2]) := F1.out.below hb F1.out.lt; have F2 : Hid (Blk w5 (w.heap.size + 2) [.int .i64 a3.nx, .slice p3 a3.ps.length n3]) := F2.out.below hb F2.out.lt; have FB : Hid (Below w.heap.size w w5) := FB.out.trans (hb.mono FB.out.size); have FR1 : Hid (Blk w5 r1 [.int .i64 rk, .int .i64 0, .slice s1 rl.length c1]) := FR1.out.below hb FR1.out.lt; have FO1 : Hid (OwnE w5 w.heap.size (.slice s1 rl.length c1) rl) := FO1.out.below hb (fun k hk => (FO1.out.lt k hk).2); have G2 : Hid (Ow w5 w.heap.size g2 a2.ps.length a2.ps.length a2.ps) := G2.out.below hb G2.out.lt; have FX2 : Hid (Blk w5 x2 [.int .i64 a2.nx, .slice (some ⟨g2, 0, none⟩) a2.ps.length a2.ps.length]) := FX2.out.below hb FX2.out.lt; clear hb; clear ho) | (refine store_new [.int .i64 a3.nx, .slice (some ⟨g3, 0, none⟩) a3.ps.length a3.ps.length] 36 _ _ (by kernel_rfl) (by kernel_rfl) (by kernel_rfl) rfl rfl rfl rfl ?_))
  obtain ⟨x3, hb_⟩ : ∃ x, x = w5.heap.size := ⟨_, rfl⟩
  obtain ⟨w6, hw_⟩ : ∃ W, W = w5.alloc (.cells #[.int .i64 a3.nx, .slice (some ⟨g3, 0, none⟩) a3.ps.length a3.ps.length] 36) := ⟨_, rfl⟩
  have lx3_F0 := F0.out.lt
  have lx3_F1 := F1.out.lt
  have lx3_F2 := F2.out.lt
  have lx3_FR1 := FR1.out.lt
  have lx3_G2 := G2.out.lt
  have lx3_FX2 := FX2.out.lt
  have lx3_G3 := G3.out.lt
  rw [← hb_] at lx3_F0 lx3_F1 lx3_F2 lx3_FR1 lx3_G2 lx3_FX2 lx3_G3
  have F0 : Hid (Blk w6 w.heap.size [.int .i64 a0.fl, .int .i64 a0.gp, .int .i64 a0.ln, .int .i64 a0.rf, .int .i64 a0.sp, .int .i64 a0.pu, .int .i64 a0.br, .int .i64 a0.dr, .int .i64 a0.lv, .int .i64 a0.dO, .int .i64 a0.ld, .int .i64 a0.qu]) := by rw [hw_]; exact F0.out.alloc _
  have F1 : Hid (Blk w6 (w.heap.size + 1) [.int .i64 a2.nx, .slice p2 a2.ps.length n2]) := by rw [hw_]; exact F1.out.alloc _
  have F2 : Hid (Blk w6 (w.heap.size + 2) [.int .i64 a3.nx, .slice p3 a3.ps.length n3]) := by rw [hw_]; exact F2.out.alloc _
  have FB : Hid (Below w.heap.size w w6) := by rw [hw_]; exact FB.out.alloc FB.out.size _
  have FR1 : Hid (Blk w6 r1 [.int .i64 rk, .int .i64 0, .slice s1 rl.length c1]) := by rw [hw_]; exact FR1.out.alloc _
  have FO1 : Hid (OwnE w6 w.heap.size (.slice s1 rl.length c1) rl) := by rw [hw_]; exact FO1.out.alloc _
  have G2 : Hid (Ow w6 w.heap.size g2 a2.ps.length a2.ps.length a2.ps) := by rw [hw_]; exact G2.out.alloc _
  have FX2 : Hid (Blk w6 x2 [.int .i64 a2.nx, .slice (some ⟨g2, 0, none⟩) a2.ps.length a2.ps.length]) := by rw [hw_]; exact FX2.out.alloc _
  have G3 : Hid (Ow w6 w.heap.size g3 a3.ps.length a3.ps.length a3.ps) := by rw [hw_]; exact G3.out.alloc _
  have FX3 : Hid (Blk w6 x3 [.int .i64 a3.nx, .slice (some ⟨g3, 0, none⟩) a3.ps.length a3.ps.length]) := by rw [hw_]; exact Blk.at_ _ _ _ _ hb_
  rw [← hw_, ← hb_]
  clear hw_ hb_
  simp only [Act.put]
  go_cut [13] (fun t wx => ∃ r2 s2 c2, t = .pointer (some ⟨r2, 0, none⟩) ∧ (∀ k, (Value.slice s2 rl.length c2).ownBlock = some k → x3 < k) ∧ (∀ k, (Value.slice s2 rl.length c2).ownBlock = some k → k ≠ r2) ∧ x3 < r2 ∧ Blk wx w.heap.size [.int .i64 a0.fl, .int .i64 a0.gp, .int .i64 a0.ln, .int .i64 a0.rf, .int .i64 a0.sp, .int .i64 a0.pu, .int .i64 a0.br, .int .i64 a0.dr, .int .i64 a0.lv, .int .i64 a0.dO, .int .i64 a0.ld, .int .i64 a0.qu] ∧ Blk wx (w.heap.size + 1) [.int .i64 a2.nx, .slice p2 a2.ps.length n2] ∧ Blk wx (w.heap.size + 2) [.int .i64 a3.nx, .slice p3 a3.ps.length n3] ∧ Below w.heap.size w wx ∧ Blk wx r1 [.int .i64 rk, .int .i64 0, .slice s1 rl.length c1] ∧ OwnE wx w.heap.size (.slice s1 rl.length c1) rl ∧ Ow wx w.heap.size g2 a2.ps.length a2.ps.length a2.ps ∧ Blk wx x2 [.int .i64 a2.nx, .slice (some ⟨g2, 0, none⟩) a2.ps.length a2.ps.length] ∧ Ow wx w.heap.size g3 a3.ps.length a3.ps.length a3.ps ∧ Blk wx x3 [.int .i64 a3.nx, .slice (some ⟨g3, 0, none⟩) a3.ps.length a3.ps.length] ∧ Blk wx r2 [.int .i64 rk, .int .i64 0, .slice s2 rl.length c2] ∧ OwnE wx w.heap.size (.slice s2 rl.length c2) rl)
  case first =>
    have F0 : Hid (Blk w6.drew w.heap.size [.int .i64 a0.fl, .int .i64 a0.gp, .int .i64 a0.ln, .int .i64 a0.rf, .int .i64 a0.sp, .int .i64 a0.pu, .int .i64 a0.br, .int .i64 a0.dr, .int .i64 a0.lv, .int .i64 a0.dO, .int .i64 a0.ld, .int .i64 a0.qu]) := F0.out.below (Below.refl _ _).drew F0.out.lt
    have F1 : Hid (Blk w6.drew (w.heap.size + 1) [.int .i64 a2.nx, .slice p2 a2.ps.length n2]) := F1.out.below (Below.refl _ _).drew F1.out.lt
    have F2 : Hid (Blk w6.drew (w.heap.size + 2) [.int .i64 a3.nx, .slice p3 a3.ps.length n3]) := F2.out.below (Below.refl _ _).drew F2.out.lt
    have FB : Hid (Below w.heap.size w w6.drew) := FB.out.drew
    have FR1 : Hid (Blk w6.drew r1 [.int .i64 rk, .int .i64 0, .slice s1 rl.length c1]) := FR1.out.below (Below.refl _ _).drew FR1.out.lt
    have FO1 : Hid (OwnE w6.drew w.heap.size (.slice s1 rl.length c1) rl) := FO1.out.drew
    have G2 : Hid (Ow w6.drew w.heap.size g2 a2.ps.length a2.ps.length a2.ps) := G2.out.below (Below.refl _ _).drew G2.out.lt
    have FX2 : Hid (Blk w6.drew x2 [.int .i64 a2.nx, .slice (some ⟨g2, 0, none⟩) a2.ps.length a2.ps.length]) := FX2.out.below (Below.refl _ _).drew FX2.out.lt
    have G3 : Hid (Ow w6.drew w.heap.size g3 a3.ps.length a3.ps.length a3.ps) := G3.out.below (Below.refl _ _).drew G3.out.lt
    have FX3 : Hid (Blk w6.drew x3 [.int .i64 a3.nx, .slice (some ⟨g3, 0, none⟩) a3.ps.length a3.ps.length]) := FX3.out.below (Below.refl _ _).drew FX3.out.lt
    refine wp_region_held_drew (S := (fun w'' => Blk w'' w.heap.size ([.int .i64 a0.fl, .int .i64 a0.gp, .int .i64 a0.ln, .int .i64 a0.rf, .int .i64 a0.sp, .int .i64 a0.pu, .int .i64 a0.br, .int .i64 a0.dr, .int .i64 a0.lv, .int .i64 a0.dO, .int .i64 a0.ld, .int .i64 a0.qu]) ∧ Blk w'' x2 ([.int .i64 a2.nx, .slice (some ⟨g2, 0, none⟩) a2.ps.length a2.ps.length]) ∧ Blk w'' x3 ([.int .i64 a3.nx, .slice (some ⟨g3, 0, none⟩) a3.ps.length a3.ps.length]))) (by kernel_rfl) (by (try dsimp only); first | exact ⟨F0.out, FX2.out, FX3.out⟩ | go_keep) (fun hHeld => ?_)
    obtain ⟨v_26, hw1⟩ : ∃ v_26, v_26 = w6.drew := ⟨_, rfl⟩
    have F0 : Hid (Blk v_26 w.heap.size [.int .i64 a0.fl, .int .i64 a0.gp, .int .i64 a0.ln, .int .i64 a0.rf, .int .i64 a0.sp, .int .i64 a0.pu, .int .i64 a0.br, .int .i64 a0.dr, .int .i64 a0.lv, .int .i64 a0.dO, .int .i64 a0.ld, .int .i64 a0.qu]) := by rw [hw1]; exact F0.out
    have F1 : Hid (Blk v_26 (w.heap.size + 1) [.int .i64 a2.nx, .slice p2 a2.ps.length n2]) := by rw [hw1]; exact F1.out
    have F2 : Hid (Blk v_26 (w.heap.size + 2) [.int .i64 a3.nx, .slice p3 a3.ps.length n3]) := by rw [hw1]; exact F2.out
    have FB : Hid (Below w.heap.size w v_26) := by rw [hw1]; exact FB.out
    have FR1 : Hid (Blk v_26 r1 [.int .i64 rk, .int .i64 0, .slice s1 rl.length c1]) := by rw [hw1]; exact FR1.out
    have FO1 : Hid (OwnE v_26 w.heap.size (.slice s1 rl.length c1) rl) := by rw [hw1]; exact FO1.out
    have G2 : Hid (Ow v_26 w.heap.size g2 a2.ps.length a2.ps.length a2.ps) := by rw [hw1]; exact G2.out
    have FX2 : Hid (Blk v_26 x2 [.int .i64 a2.nx, .slice (some ⟨g2, 0, none⟩) a2.ps.length a2.ps.length]) := by rw [hw1]; exact FX2.out
    have G3 : Hid (Ow v_26 w.heap.size g3 a3.ps.length a3.ps.length a3.ps) := by rw [hw1]; exact G3.out
    have FX3 : Hid (Blk v_26 x3 [.int .i64 a3.nx, .slice (some ⟨g3, 0, none⟩) a3.ps.length a3.ps.length]) := by rw [hw1]; exact FX3.out
    rw [← hw1] at hHeld ⊢
    clear hw1
    refine tkz 0 rfl ?_ (hy := Or.inl ⟨by kernel_rfl, fun wx hSw => exec_load_blk 23 _ Try.underlying23 (by kernel_rfl) rfl rfl hSw.1⟩)
    refine tkz 2 rfl ?_
    refine tkz 3 rfl ?_ (hy := Or.inl ⟨by kernel_rfl, fun wx hSw => exec_load_blk 36 _ Try.underlying36 (by kernel_rfl) rfl rfl hSw.2.1⟩)
    refine tkz 4 rfl ?_ (hy := Or.inl ⟨by kernel_rfl, fun wx hSw => exec_load_blk 36 _ Try.underlying36 (by kernel_rfl) rfl rfl hSw.2.2⟩)
    refine wpAnyH_ready (rs := [1, 6]) (by kernel_rfl) (by simp) ?_
    refine (AllReadyH.cons rfl (fun K hK => ?_) (AllReadyH.cons rfl (fun K hK => ?_) AllReadyH.nil))
    · go_simp
      refine (toHouse_any a0 _).mono ?_
      rintro e v_27 ⟨rfl, hb⟩
      have F0 : Hid (Blk v_27 w.heap.size [.int .i64 a0.fl, .int .i64 a0.gp, .int .i64 a0.ln, .int .i64 a0.rf, .int .i64 a0.sp, .int .i64 a0.pu, .int .i64 a0.br, .int .i64 a0.dr, .int .i64 a0.lv, .int .i64 a0.dO, .int .i64 a0.ld, .int .i64 a0.qu]) := F0.out.below hb F0.out.lt
      have F1 : Hid (Blk v_27 (w.heap.size + 1) [.int .i64 a2.nx, .slice p2 a2.ps.length n2]) := F1.out.below hb F1.out.lt
      have F2 : Hid (Blk v_27 (w.heap.size + 2) [.int .i64 a3.nx, .slice p3 a3.ps.length n3]) := F2.out.below hb F2.out.lt
      have FB : Hid (Below w.heap.size w v_27) := FB.out.trans (hb.mono FB.out.size)
      have FR1 : Hid (Blk v_27 r1 [.int .i64 rk, .int .i64 0, .slice s1 rl.length c1]) := FR1.out.below hb FR1.out.lt
      have FO1 : Hid (OwnE v_27 w.heap.size (.slice s1 rl.length c1) rl) := FO1.out.below hb (fun k hk => (FO1.out.lt k hk).2)
      have G2 : Hid (Ow v_27 w.heap.size g2 a2.ps.length a2.ps.length a2.ps) := G2.out.below hb G2.out.lt
      have FX2 : Hid (Blk v_27 x2 [.int .i64 a2.nx, .slice (some ⟨g2, 0, none⟩) a2.ps.length a2.ps.length]) := FX2.out.below hb FX2.out.lt
      have G3 : Hid (Ow v_27 w.heap.size g3 a3.ps.length a3.ps.length a3.ps) := G3.out.below hb G3.out.lt
      have FX3 : Hid (Blk v_27 x3 [.int .i64 a3.nx, .slice (some ⟨g3, 0, none⟩) a3.ps.length a3.ps.length]) := FX3.out.below hb FX3.out.lt
      clear hb
      try dsimp only
      refine hK.out _ _ (by (try dsimp only); first | exact ⟨F0.out, FX2.out, FX3.out⟩ | go_keep) (fun hHeld => ?_)
      clear hK K
      try simp only [Act.put, List.getElem_toArray, List.getElem_cons_succ, List.getElem_cons_zero, List.setIfInBounds_toArray, List.set_cons_zero, List.set_cons_succ]
      refine wpAnyH_ready (rs := [5, 6]) (by kernel_rfl) (by simp) ?_
      refine (AllReadyH.cons rfl (fun K hK => ?_) (AllReadyH.cons rfl (fun K hK => ?_) AllReadyH.nil))
      · go_simp
        refine (CI w.heap.size g2 g3 _ G2.out G3.out).mono ?_
        rintro e v_28 ⟨s2, c2, rfl, ho, hb⟩
        first | (have nq2 : ∀ k, (Value.slice s2 rl.length c2).ownBlock = some k → r2 < k := fun k hk => Nat.lt_of_lt_of_le FZ.out.lt (ho.lt k hk).1) | skip
        have R2 : ∀ k, (Value.slice s2 rl.length c2).ownBlock = some k → x3 < k := fun k hk => Nat.lt_of_lt_of_le FX3.out.lt (ho.lt k hk).1
        have FO2 : Hid (OwnE v_28 w.heap.size (.slice s2 rl.length c2) rl) := ho.base FB.out.size
        have F0 : Hid (Blk v_28 w.heap.size [.int .i64 a0.fl, .int .i64 a0.gp, .int .i64 a0.ln, .int .i64 a0.rf, .int .i64 a0.sp, .int .i64 a0.pu, .int .i64 a0.br, .int .i64 a0.dr, .int .i64 a0.lv, .int .i64 a0.dO, .int .i64 a0.ld, .int .i64 a0.qu]) := F0.out.below hb F0.out.lt
        have F1 : Hid (Blk v_28 (w.heap.size + 1) [.int .i64 a2.nx, .slice p2 a2.ps.length n2]) := F1.out.below hb F1.out.lt
        have F2 : Hid (Blk v_28 (w.heap.size + 2) [.int .i64 a3.nx, .slice p3 a3.ps.length n3]) := F2.out.below hb F2.out.lt
        have FB : Hid (Below w.heap.size w v_28) := FB.out.trans (hb.mono FB.out.size)
        have FR1 : Hid (Blk v_28 r1 [.int .i64 rk, .int .i64 0, .slice s1 rl.length c1]) := FR1.out.below hb FR1.out.lt
        have FO1 : Hid (OwnE v_28 w.heap.size (.slice s1 rl.length c1) rl) := FO1.out.below hb (fun k hk => (FO1.out.lt k hk).2)
        have G2 : Hid (Ow v_28 w.heap.size g2 a2.ps.length a2.ps.length a2.ps) := G2.out.below hb G2.out.lt
        have FX2 : Hid (Blk v_28 x2 [.int .i64 a2.nx, .slice (some ⟨g2, 0, none⟩) a2.ps.length a2.ps.length]) := FX2.out.below hb FX2.out.lt
        have G3 : Hid (Ow v_28 w.heap.size g3 a3.ps.length a3.ps.length a3.ps) := G3.out.below hb G3.out.lt
        have FX3 : Hid (Blk v_28 x3 [.int .i64 a3.nx, .slice (some ⟨g3, 0, none⟩) a3.ps.length a3.ps.length]) := FX3.out.below hb FX3.out.lt
        clear hb
        clear ho
        try dsimp only
        refine hK.out _ _ (by (try dsimp only); first | exact ⟨F0.out, FX2.out, FX3.out⟩ | go_keep) (fun hHeld => ?_)
        clear hK K
        try simp only [Act.put, List.getElem_toArray, List.getElem_cons_succ, List.getElem_cons_zero, List.setIfInBounds_toArray, List.set_cons_zero, List.set_cons_succ]
        refine wpAnyH_ready (rs := [6]) (by kernel_rfl) (by simp) ?_
        refine (AllReadyH.cons rfl (fun K hK => ?_) AllReadyH.nil)
        go_simp
        obtain ⟨r2, hbb⟩ : ∃ r2, r2 = v_28.heap.size := ⟨_, rfl⟩
        obtain ⟨v_29, hw2⟩ : ∃ v_29, v_29 = v_28.alloc (.cells #[.int .i64 0, .int .i64 0, .slice none 0 0] 30) := ⟨_, rfl⟩
        have nr2_0 := F0.out.lt
        rw [← hbb] at nr2_0
        have nr2_1 := F1.out.lt
        rw [← hbb] at nr2_1
        have nr2_2 := F2.out.lt
        rw [← hbb] at nr2_2
        have nr2_4 := FR1.out.lt
        rw [← hbb] at nr2_4
        have nr2_oFO1 := fun k hk => (FO1.out.lt k hk).2
        rw [← hbb] at nr2_oFO1
        have nr2_6 := G2.out.lt
        rw [← hbb] at nr2_6
        have nr2_7 := FX2.out.lt
        rw [← hbb] at nr2_7
        have nr2_8 := G3.out.lt
        rw [← hbb] at nr2_8
        have nr2_9 := FX3.out.lt
        rw [← hbb] at nr2_9
        have nr2_oFO2 := fun k hk => (FO2.out.lt k hk).2
        rw [← hbb] at nr2_oFO2
        have FZ : Hid (Blk v_29 r2 [.int .i64 0, .int .i64 0, .slice none 0 0]) := by rw [hw2]; exact Blk.at_ _ _ _ _ hbb
        have F0 : Hid (Blk v_29 w.heap.size [.int .i64 a0.fl, .int .i64 a0.gp, .int .i64 a0.ln, .int .i64 a0.rf, .int .i64 a0.sp, .int .i64 a0.pu, .int .i64 a0.br, .int .i64 a0.dr, .int .i64 a0.lv, .int .i64 a0.dO, .int .i64 a0.ld, .int .i64 a0.qu]) := by rw [hw2]; exact F0.out.alloc _
        have F1 : Hid (Blk v_29 (w.heap.size + 1) [.int .i64 a2.nx, .slice p2 a2.ps.length n2]) := by rw [hw2]; exact F1.out.alloc _
        have F2 : Hid (Blk v_29 (w.heap.size + 2) [.int .i64 a3.nx, .slice p3 a3.ps.length n3]) := by rw [hw2]; exact F2.out.alloc _
        have FB : Hid (Below w.heap.size w v_29) := by rw [hw2]; exact FB.out.alloc FB.out.size _
        have FR1 : Hid (Blk v_29 r1 [.int .i64 rk, .int .i64 0, .slice s1 rl.length c1]) := by rw [hw2]; exact FR1.out.alloc _
        have FO1 : Hid (OwnE v_29 w.heap.size (.slice s1 rl.length c1) rl) := by rw [hw2]; exact FO1.out.alloc _
        have G2 : Hid (Ow v_29 w.heap.size g2 a2.ps.length a2.ps.length a2.ps) := by rw [hw2]; exact G2.out.alloc _
        have FX2 : Hid (Blk v_29 x2 [.int .i64 a2.nx, .slice (some ⟨g2, 0, none⟩) a2.ps.length a2.ps.length]) := by rw [hw2]; exact FX2.out.alloc _
        have G3 : Hid (Ow v_29 w.heap.size g3 a3.ps.length a3.ps.length a3.ps) := by rw [hw2]; exact G3.out.alloc _
        have FX3 : Hid (Blk v_29 x3 [.int .i64 a3.nx, .slice (some ⟨g3, 0, none⟩) a3.ps.length a3.ps.length]) := by rw [hw2]; exact FX3.out.alloc _
        have FO2 : Hid (OwnE v_29 w.heap.size (.slice s2 rl.length c2) rl) := by rw [hw2]; exact FO2.out.alloc _
        rw [← hw2, ← hbb]
        clear hbb hw2
        refine hK.out _ _ (by (try dsimp only); first | exact ⟨F0.out, FX2.out, FX3.out⟩ | go_keep) (fun hHeld => ?_)
        clear hK K
        try simp only [Act.put, List.getElem_toArray, List.getElem_cons_succ, List.getElem_cons_zero, List.setIfInBounds_toArray, List.set_cons_zero, List.set_cons_succ]
        refine wpAnyH_ready (rs := [7]) (by kernel_rfl) (by simp) ?_
        refine (AllReadyH.cons rfl (fun K hK => ?_) AllReadyH.nil)
        have z0_ := FZ.out.c 0 _ rfl
        have z1_ := FZ.out.c 1 _ rfl
        have z2_ := FZ.out.c 2 _ rfl
        have y0_ := FZ.out.f 0 (Nat.le_of_ble_eq_true rfl)
        have y1_ := FZ.out.f 1 (Nat.le_of_ble_eq_true rfl)
        have y2_ := FZ.out.f 2 (Nat.le_of_ble_eq_true rfl)
        go_simp
        obtain ⟨v_30, hw2⟩ : ∃ v_30, v_30 = putB v_29 r2 0 [.int .i64 rk, .int .i64 0, .slice s2 rl.length c2] := ⟨_, rfl⟩
        change K _ (putB v_29 r2 0 [.int .i64 rk, .int .i64 0, .slice s2 rl.length c2])
        rw [← hw2]
        clear z0_ z1_ z2_ y0_ y1_ y2_
        have F0 : Hid (Blk v_30 w.heap.size [.int .i64 a0.fl, .int .i64 a0.gp, .int .i64 a0.ln, .int .i64 a0.rf, .int .i64 a0.sp, .int .i64 a0.pu, .int .i64 a0.br, .int .i64 a0.dr, .int .i64 a0.lv, .int .i64 a0.dO, .int .i64 a0.ld, .int .i64 a0.qu]) := by rw [hw2]; exact Blk.putB_other (by omega) _ _ F0.out
        have F1 : Hid (Blk v_30 (w.heap.size + 1) [.int .i64 a2.nx, .slice p2 a2.ps.length n2]) := by rw [hw2]; exact Blk.putB_other (by omega) _ _ F1.out
        have F2 : Hid (Blk v_30 (w.heap.size + 2) [.int .i64 a3.nx, .slice p3 a3.ps.length n3]) := by rw [hw2]; exact Blk.putB_other (by omega) _ _ F2.out
        have FB : Hid (Below w.heap.size w v_30) := by rw [hw2]; exact below_putB FB.out (by omega) _ _
        have FR1 : Hid (Blk v_30 r1 [.int .i64 rk, .int .i64 0, .slice s1 rl.length c1]) := by rw [hw2]; exact Blk.putB_other (by omega) _ _ FR1.out
        have FO1 : Hid (OwnE v_30 w.heap.size (.slice s1 rl.length c1) rl) := by rw [hw2]; exact OwnE.putB (by intro k hk; have := nr2_oFO1 k hk; omega) _ _ _ FO1.out
        have G2 : Hid (Ow v_30 w.heap.size g2 a2.ps.length a2.ps.length a2.ps) := by rw [hw2]; exact Ow.putB (by omega) _ _ _ G2.out
        have FX2 : Hid (Blk v_30 x2 [.int .i64 a2.nx, .slice (some ⟨g2, 0, none⟩) a2.ps.length a2.ps.length]) := by rw [hw2]; exact Blk.putB_other (by omega) _ _ FX2.out
        have G3 : Hid (Ow v_30 w.heap.size g3 a3.ps.length a3.ps.length a3.ps) := by rw [hw2]; exact Ow.putB (by omega) _ _ _ G3.out
        have FX3 : Hid (Blk v_30 x3 [.int .i64 a3.nx, .slice (some ⟨g3, 0, none⟩) a3.ps.length a3.ps.length]) := by rw [hw2]; exact Blk.putB_other (by omega) _ _ FX3.out
        have FO2 : Hid (OwnE v_30 w.heap.size (.slice s2 rl.length c2) rl) := by rw [hw2]; exact OwnE.putB (by intro k hk; first | (have := nq2 k hk; omega) | (have := nr2_oFO2 k hk; omega)) _ _ _ FO2.out
        have FZ : Hid (Blk v_30 r2 [.int .i64 rk, .int .i64 0, .slice s2 rl.length c2]) := by rw [hw2]; exact FZ.out.put _ rfl
        clear hw2
        refine hK.out _ _ (by (try dsimp only); first | exact ⟨F0.out, FX2.out, FX3.out⟩ | go_keep) (fun hHeld => ?_)
        clear hK K
        try simp only [Act.put, List.getElem_toArray, List.getElem_cons_succ, List.getElem_cons_zero, List.setIfInBounds_toArray, List.set_cons_zero, List.set_cons_succ]
        refine wpAnyH_done (by kernel_rfl) ?_ _
        go_wp2_with fail
        go_meet
        case rel => exact ⟨r2, s2, c2, rfl, R2, (by intro k hk; first | (have := nq2 k hk; omega) | (have := nr2_oFO2 k hk; omega)), (by omega), F0.out, F1.out, F2.out, FB.out, FR1.out, FO1.out, G2.out, FX2.out, G3.out, FX3.out, FZ.out, FO2.out⟩
      · go_simp
        obtain ⟨r2, hbb⟩ : ∃ r2, r2 = v_27.heap.size := ⟨_, rfl⟩
        obtain ⟨v_31, hw2⟩ : ∃ v_31, v_31 = v_27.alloc (.cells #[.int .i64 0, .int .i64 0, .slice none 0 0] 30) := ⟨_, rfl⟩
        have nr2_0 := F0.out.lt
        rw [← hbb] at nr2_0
        have nr2_1 := F1.out.lt
        rw [← hbb] at nr2_1
        have nr2_2 := F2.out.lt
        rw [← hbb] at nr2_2
        have nr2_4 := FR1.out.lt
        rw [← hbb] at nr2_4
        have nr2_oFO1 := fun k hk => (FO1.out.lt k hk).2
        rw [← hbb] at nr2_oFO1
        have nr2_6 := G2.out.lt
        rw [← hbb] at nr2_6
        have nr2_7 := FX2.out.lt
        rw [← hbb] at nr2_7
        have nr2_8 := G3.out.lt
        rw [← hbb] at nr2_8
        have nr2_9 := FX3.out.lt
        rw [← hbb] at nr2_9
        have FZ : Hid (Blk v_31 r2 [.int .i64 0, .int .i64 0, .slice none 0 0]) := by rw [hw2]; exact Blk.at_ _ _ _ _ hbb
        have F0 : Hid (Blk v_31 w.heap.size [.int .i64 a0.fl, .int .i64 a0.gp, .int .i64 a0.ln, .int .i64 a0.rf, .int .i64 a0.sp, .int .i64 a0.pu, .int .i64 a0.br, .int .i64 a0.dr, .int .i64 a0.lv, .int .i64 a0.dO, .int .i64 a0.ld, .int .i64 a0.qu]) := by rw [hw2]; exact F0.out.alloc _
        have F1 : Hid (Blk v_31 (w.heap.size + 1) [.int .i64 a2.nx, .slice p2 a2.ps.length n2]) := by rw [hw2]; exact F1.out.alloc _
        have F2 : Hid (Blk v_31 (w.heap.size + 2) [.int .i64 a3.nx, .slice p3 a3.ps.length n3]) := by rw [hw2]; exact F2.out.alloc _
        have FB : Hid (Below w.heap.size w v_31) := by rw [hw2]; exact FB.out.alloc FB.out.size _
        have FR1 : Hid (Blk v_31 r1 [.int .i64 rk, .int .i64 0, .slice s1 rl.length c1]) := by rw [hw2]; exact FR1.out.alloc _
        have FO1 : Hid (OwnE v_31 w.heap.size (.slice s1 rl.length c1) rl) := by rw [hw2]; exact FO1.out.alloc _
        have G2 : Hid (Ow v_31 w.heap.size g2 a2.ps.length a2.ps.length a2.ps) := by rw [hw2]; exact G2.out.alloc _
        have FX2 : Hid (Blk v_31 x2 [.int .i64 a2.nx, .slice (some ⟨g2, 0, none⟩) a2.ps.length a2.ps.length]) := by rw [hw2]; exact FX2.out.alloc _
        have G3 : Hid (Ow v_31 w.heap.size g3 a3.ps.length a3.ps.length a3.ps) := by rw [hw2]; exact G3.out.alloc _
        have FX3 : Hid (Blk v_31 x3 [.int .i64 a3.nx, .slice (some ⟨g3, 0, none⟩) a3.ps.length a3.ps.length]) := by rw [hw2]; exact FX3.out.alloc _
        rw [← hw2, ← hbb]
        clear hbb hw2
        refine hK.out _ _ (by (try dsimp only); first | exact ⟨F0.out, FX2.out, FX3.out⟩ | go_keep) (fun hHeld => ?_)
        clear hK K
        try simp only [Act.put, List.getElem_toArray, List.getElem_cons_succ, List.getElem_cons_zero, List.setIfInBounds_toArray, List.set_cons_zero, List.set_cons_succ]
        refine wpAnyH_ready (rs := [5]) (by kernel_rfl) (by simp) ?_
        refine (AllReadyH.cons rfl (fun K hK => ?_) AllReadyH.nil)
        go_simp
        refine (CI w.heap.size g2 g3 _ G2.out G3.out).mono ?_
        rintro e v_32 ⟨s2, c2, rfl, ho, hb⟩
        first | (have nq2 : ∀ k, (Value.slice s2 rl.length c2).ownBlock = some k → r2 < k := fun k hk => Nat.lt_of_lt_of_le FZ.out.lt (ho.lt k hk).1) | skip
        have R2 : ∀ k, (Value.slice s2 rl.length c2).ownBlock = some k → x3 < k := fun k hk => Nat.lt_of_lt_of_le FX3.out.lt (ho.lt k hk).1
        have FO2 : Hid (OwnE v_32 w.heap.size (.slice s2 rl.length c2) rl) := ho.base FB.out.size
        have F0 : Hid (Blk v_32 w.heap.size [.int .i64 a0.fl, .int .i64 a0.gp, .int .i64 a0.ln, .int .i64 a0.rf, .int .i64 a0.sp, .int .i64 a0.pu, .int .i64 a0.br, .int .i64 a0.dr, .int .i64 a0.lv, .int .i64 a0.dO, .int .i64 a0.ld, .int .i64 a0.qu]) := F0.out.below hb F0.out.lt
        have F1 : Hid (Blk v_32 (w.heap.size + 1) [.int .i64 a2.nx, .slice p2 a2.ps.length n2]) := F1.out.below hb F1.out.lt
        have F2 : Hid (Blk v_32 (w.heap.size + 2) [.int .i64 a3.nx, .slice p3 a3.ps.length n3]) := F2.out.below hb F2.out.lt
        have FB : Hid (Below w.heap.size w v_32) := FB.out.trans (hb.mono FB.out.size)
        have FR1 : Hid (Blk v_32 r1 [.int .i64 rk, .int .i64 0, .slice s1 rl.length c1]) := FR1.out.below hb FR1.out.lt
        have FO1 : Hid (OwnE v_32 w.heap.size (.slice s1 rl.length c1) rl) := FO1.out.below hb (fun k hk => (FO1.out.lt k hk).2)
        have G2 : Hid (Ow v_32 w.heap.size g2 a2.ps.length a2.ps.length a2.ps) := G2.out.below hb G2.out.lt
        have FX2 : Hid (Blk v_32 x2 [.int .i64 a2.nx, .slice (some ⟨g2, 0, none⟩) a2.ps.length a2.ps.length]) := FX2.out.below hb FX2.out.lt
        have G3 : Hid (Ow v_32 w.heap.size g3 a3.ps.length a3.ps.length a3.ps) := G3.out.below hb G3.out.lt
        have FX3 : Hid (Blk v_32 x3 [.int .i64 a3.nx, .slice (some ⟨g3, 0, none⟩) a3.ps.length a3.ps.length]) := FX3.out.below hb FX3.out.lt
        have FZ : Hid (Blk v_32 r2 [.int .i64 0, .int .i64 0, .slice none 0 0]) := FZ.out.below hb FZ.out.lt
        clear hb
        clear ho
        try dsimp only
        refine hK.out _ _ (by (try dsimp only); first | exact ⟨F0.out, FX2.out, FX3.out⟩ | go_keep) (fun hHeld => ?_)
        clear hK K
        try simp only [Act.put, List.getElem_toArray, List.getElem_cons_succ, List.getElem_cons_zero, List.setIfInBounds_toArray, List.set_cons_zero, List.set_cons_succ]
        refine wpAnyH_ready (rs := [7]) (by kernel_rfl) (by simp) ?_
        refine (AllReadyH.cons rfl (fun K hK => ?_) AllReadyH.nil)
        have z0_ := FZ.out.c 0 _ rfl
        have z1_ := FZ.out.c 1 _ rfl
        have z2_ := FZ.out.c 2 _ rfl
        have y0_ := FZ.out.f 0 (Nat.le_of_ble_eq_true rfl)
        have y1_ := FZ.out.f 1 (Nat.le_of_ble_eq_true rfl)
        have y2_ := FZ.out.f 2 (Nat.le_of_ble_eq_true rfl)
        go_simp
        obtain ⟨v_33, hw2⟩ : ∃ v_33, v_33 = putB v_32 r2 0 [.int .i64 rk, .int .i64 0, .slice s2 rl.length c2] := ⟨_, rfl⟩
        change K _ (putB v_32 r2 0 [.int .i64 rk, .int .i64 0, .slice s2 rl.length c2])
        rw [← hw2]
        clear z0_ z1_ z2_ y0_ y1_ y2_
        have F0 : Hid (Blk v_33 w.heap.size [.int .i64 a0.fl, .int .i64 a0.gp, .int .i64 a0.ln, .int .i64 a0.rf, .int .i64 a0.sp, .int .i64 a0.pu, .int .i64 a0.br, .int .i64 a0.dr, .int .i64 a0.lv, .int .i64 a0.dO, .int .i64 a0.ld, .int .i64 a0.qu]) := by rw [hw2]; exact Blk.putB_other (by omega) _ _ F0.out
        have F1 : Hid (Blk v_33 (w.heap.size + 1) [.int .i64 a2.nx, .slice p2 a2.ps.length n2]) := by rw [hw2]; exact Blk.putB_other (by omega) _ _ F1.out
        have F2 : Hid (Blk v_33 (w.heap.size + 2) [.int .i64 a3.nx, .slice p3 a3.ps.length n3]) := by rw [hw2]; exact Blk.putB_other (by omega) _ _ F2.out
        have FB : Hid (Below w.heap.size w v_33) := by rw [hw2]; exact below_putB FB.out (by omega) _ _
        have FR1 : Hid (Blk v_33 r1 [.int .i64 rk, .int .i64 0, .slice s1 rl.length c1]) := by rw [hw2]; exact Blk.putB_other (by omega) _ _ FR1.out
        have FO1 : Hid (OwnE v_33 w.heap.size (.slice s1 rl.length c1) rl) := by rw [hw2]; exact OwnE.putB (by intro k hk; have := nr2_oFO1 k hk; omega) _ _ _ FO1.out
        have G2 : Hid (Ow v_33 w.heap.size g2 a2.ps.length a2.ps.length a2.ps) := by rw [hw2]; exact Ow.putB (by omega) _ _ _ G2.out
        have FX2 : Hid (Blk v_33 x2 [.int .i64 a2.nx, .slice (some ⟨g2, 0, none⟩) a2.ps.length a2.ps.length]) := by rw [hw2]; exact Blk.putB_other (by omega) _ _ FX2.out
        have G3 : Hid (Ow v_33 w.heap.size g3 a3.ps.length a3.ps.length a3.ps) := by rw [hw2]; exact Ow.putB (by omega) _ _ _ G3.out
        have FX3 : Hid (Blk v_33 x3 [.int .i64 a3.nx, .slice (some ⟨g3, 0, none⟩) a3.ps.length a3.ps.length]) := by rw [hw2]; exact Blk.putB_other (by omega) _ _ FX3.out
        have FZ : Hid (Blk v_33 r2 [.int .i64 rk, .int .i64 0, .slice s2 rl.length c2]) := by rw [hw2]; exact FZ.out.put _ rfl
        have FO2 : Hid (OwnE v_33 w.heap.size (.slice s2 rl.length c2) rl) := by rw [hw2]; exact OwnE.putB (by intro k hk; first | (have := nq2 k hk; omega) | (have := nr2_oFO2 k hk; omega)) _ _ _ FO2.out
        clear hw2
        refine hK.out _ _ (by (try dsimp only); first | exact ⟨F0.out, FX2.out, FX3.out⟩ | go_keep) (fun hHeld => ?_)
        clear hK K
        try simp only [Act.put, List.getElem_toArray, List.getElem_cons_succ, List.getElem_cons_zero, List.setIfInBounds_toArray, List.set_cons_zero, List.set_cons_succ]
        refine wpAnyH_done (by kernel_rfl) ?_ _
        go_wp2_with fail
        go_meet
        case rel => exact ⟨r2, s2, c2, rfl, R2, (by intro k hk; first | (have := nq2 k hk; omega) | (have := nr2_oFO2 k hk; omega)), (by omega), F0.out, F1.out, F2.out, FB.out, FR1.out, FO1.out, G2.out, FX2.out, G3.out, FX3.out, FZ.out, FO2.out⟩
    · go_simp
      obtain ⟨r2, hbb⟩ : ∃ r2, r2 = v_26.heap.size := ⟨_, rfl⟩
      obtain ⟨v_34, hw2⟩ : ∃ v_34, v_34 = v_26.alloc (.cells #[.int .i64 0, .int .i64 0, .slice none 0 0] 30) := ⟨_, rfl⟩
      have nr2_0 := F0.out.lt
      rw [← hbb] at nr2_0
      have nr2_1 := F1.out.lt
      rw [← hbb] at nr2_1
      have nr2_2 := F2.out.lt
      rw [← hbb] at nr2_2
      have nr2_4 := FR1.out.lt
      rw [← hbb] at nr2_4
      have nr2_oFO1 := fun k hk => (FO1.out.lt k hk).2
      rw [← hbb] at nr2_oFO1
      have nr2_6 := G2.out.lt
      rw [← hbb] at nr2_6
      have nr2_7 := FX2.out.lt
      rw [← hbb] at nr2_7
      have nr2_8 := G3.out.lt
      rw [← hbb] at nr2_8
      have nr2_9 := FX3.out.lt
      rw [← hbb] at nr2_9
      have FZ : Hid (Blk v_34 r2 [.int .i64 0, .int .i64 0, .slice none 0 0]) := by rw [hw2]; exact Blk.at_ _ _ _ _ hbb
      have F0 : Hid (Blk v_34 w.heap.size [.int .i64 a0.fl, .int .i64 a0.gp, .int .i64 a0.ln, .int .i64 a0.rf, .int .i64 a0.sp, .int .i64 a0.pu, .int .i64 a0.br, .int .i64 a0.dr, .int .i64 a0.lv, .int .i64 a0.dO, .int .i64 a0.ld, .int .i64 a0.qu]) := by rw [hw2]; exact F0.out.alloc _
      have F1 : Hid (Blk v_34 (w.heap.size + 1) [.int .i64 a2.nx, .slice p2 a2.ps.length n2]) := by rw [hw2]; exact F1.out.alloc _
      have F2 : Hid (Blk v_34 (w.heap.size + 2) [.int .i64 a3.nx, .slice p3 a3.ps.length n3]) := by rw [hw2]; exact F2.out.alloc _
      have FB : Hid (Below w.heap.size w v_34) := by rw [hw2]; exact FB.out.alloc FB.out.size _
      have FR1 : Hid (Blk v_34 r1 [.int .i64 rk, .int .i64 0, .slice s1 rl.length c1]) := by rw [hw2]; exact FR1.out.alloc _
      have FO1 : Hid (OwnE v_34 w.heap.size (.slice s1 rl.length c1) rl) := by rw [hw2]; exact FO1.out.alloc _
      have G2 : Hid (Ow v_34 w.heap.size g2 a2.ps.length a2.ps.length a2.ps) := by rw [hw2]; exact G2.out.alloc _
      have FX2 : Hid (Blk v_34 x2 [.int .i64 a2.nx, .slice (some ⟨g2, 0, none⟩) a2.ps.length a2.ps.length]) := by rw [hw2]; exact FX2.out.alloc _
      have G3 : Hid (Ow v_34 w.heap.size g3 a3.ps.length a3.ps.length a3.ps) := by rw [hw2]; exact G3.out.alloc _
      have FX3 : Hid (Blk v_34 x3 [.int .i64 a3.nx, .slice (some ⟨g3, 0, none⟩) a3.ps.length a3.ps.length]) := by rw [hw2]; exact FX3.out.alloc _
      rw [← hw2, ← hbb]
      clear hbb hw2
      refine hK.out _ _ (by (try dsimp only); first | exact ⟨F0.out, FX2.out, FX3.out⟩ | go_keep) (fun hHeld => ?_)
      clear hK K
      try simp only [Act.put, List.getElem_toArray, List.getElem_cons_succ, List.getElem_cons_zero, List.setIfInBounds_toArray, List.set_cons_zero, List.set_cons_succ]
      refine wpAnyH_ready (rs := [1]) (by kernel_rfl) (by simp) ?_
      refine (AllReadyH.cons rfl (fun K hK => ?_) AllReadyH.nil)
      go_simp
      refine (toHouse_any a0 _).mono ?_
      rintro e v_35 ⟨rfl, hb⟩
      have F0 : Hid (Blk v_35 w.heap.size [.int .i64 a0.fl, .int .i64 a0.gp, .int .i64 a0.ln, .int .i64 a0.rf, .int .i64 a0.sp, .int .i64 a0.pu, .int .i64 a0.br, .int .i64 a0.dr, .int .i64 a0.lv, .int .i64 a0.dO, .int .i64 a0.ld, .int .i64 a0.qu]) := F0.out.below hb F0.out.lt
      have F1 : Hid (Blk v_35 (w.heap.size + 1) [.int .i64 a2.nx, .slice p2 a2.ps.length n2]) := F1.out.below hb F1.out.lt
      have F2 : Hid (Blk v_35 (w.heap.size + 2) [.int .i64 a3.nx, .slice p3 a3.ps.length n3]) := F2.out.below hb F2.out.lt
      have FB : Hid (Below w.heap.size w v_35) := FB.out.trans (hb.mono FB.out.size)
      have FR1 : Hid (Blk v_35 r1 [.int .i64 rk, .int .i64 0, .slice s1 rl.length c1]) := FR1.out.below hb FR1.out.lt
      have FO1 : Hid (OwnE v_35 w.heap.size (.slice s1 rl.length c1) rl) := FO1.out.below hb (fun k hk => (FO1.out.lt k hk).2)
      have G2 : Hid (Ow v_35 w.heap.size g2 a2.ps.length a2.ps.length a2.ps) := G2.out.below hb G2.out.lt
      have FX2 : Hid (Blk v_35 x2 [.int .i64 a2.nx, .slice (some ⟨g2, 0, none⟩) a2.ps.length a2.ps.length]) := FX2.out.below hb FX2.out.lt
      have G3 : Hid (Ow v_35 w.heap.size g3 a3.ps.length a3.ps.length a3.ps) := G3.out.below hb G3.out.lt
      have FX3 : Hid (Blk v_35 x3 [.int .i64 a3.nx, .slice (some ⟨g3, 0, none⟩) a3.ps.length a3.ps.length]) := FX3.out.below hb FX3.out.lt
      have FZ : Hid (Blk v_35 r2 [.int .i64 0, .int .i64 0, .slice none 0 0]) := FZ.out.below hb FZ.out.lt
      clear hb
      try dsimp only
      refine hK.out _ _ (by (try dsimp only); first | exact ⟨F0.out, FX2.out, FX3.out⟩ | go_keep) (fun hHeld => ?_)
      clear hK K
      try simp only [Act.put, List.getElem_toArray, List.getElem_cons_succ, List.getElem_cons_zero, List.setIfInBounds_toArray, List.set_cons_zero, List.set_cons_succ]
      refine wpAnyH_ready (rs := [5]) (by kernel_rfl) (by simp) ?_
      refine (AllReadyH.cons rfl (fun K hK => ?_) AllReadyH.nil)
      go_simp
      refine (CI w.heap.size g2 g3 _ G2.out G3.out).mono ?_
      rintro e v_36 ⟨s2, c2, rfl, ho, hb⟩
      first | (have nq2 : ∀ k, (Value.slice s2 rl.length c2).ownBlock = some k → r2 < k := fun k hk => Nat.lt_of_lt_of_le FZ.out.lt (ho.lt k hk).1) | skip
      have R2 : ∀ k, (Value.slice s2 rl.length c2).ownBlock = some k → x3 < k := fun k hk => Nat.lt_of_lt_of_le FX3.out.lt (ho.lt k hk).1
      have FO2 : Hid (OwnE v_36 w.heap.size (.slice s2 rl.length c2) rl) := ho.base FB.out.size
      have F0 : Hid (Blk v_36 w.heap.size [.int .i64 a0.fl, .int .i64 a0.gp, .int .i64 a0.ln, .int .i64 a0.rf, .int .i64 a0.sp, .int .i64 a0.pu, .int .i64 a0.br, .int .i64 a0.dr, .int .i64 a0.lv, .int .i64 a0.dO, .int .i64 a0.ld, .int .i64 a0.qu]) := F0.out.below hb F0.out.lt
      have F1 : Hid (Blk v_36 (w.heap.size + 1) [.int .i64 a2.nx, .slice p2 a2.ps.length n2]) := F1.out.below hb F1.out.lt
      have F2 : Hid (Blk v_36 (w.heap.size + 2) [.int .i64 a3.nx, .slice p3 a3.ps.length n3]) := F2.out.below hb F2.out.lt
      have FB : Hid (Below w.heap.size w v_36) := FB.out.trans (hb.mono FB.out.size)
      have FR1 : Hid (Blk v_36 r1 [.int .i64 rk, .int .i64 0, .slice s1 rl.length c1]) := FR1.out.below hb FR1.out.lt
      have FO1 : Hid (OwnE v_36 w.heap.size (.slice s1 rl.length c1) rl) := FO1.out.below hb (fun k hk => (FO1.out.lt k hk).2)
      have G2 : Hid (Ow v_36 w.heap.size g2 a2.ps.length a2.ps.length a2.ps) := G2.out.below hb G2.out.lt
      have FX2 : Hid (Blk v_36 x2 [.int .i64 a2.nx, .slice (some ⟨g2, 0, none⟩) a2.ps.length a2.ps.length]) := FX2.out.below hb FX2.out.lt
      have G3 : Hid (Ow v_36 w.heap.size g3 a3.ps.length a3.ps.length a3.ps) := G3.out.below hb G3.out.lt
      have FX3 : Hid (Blk v_36 x3 [.int .i64 a3.nx, .slice (some ⟨g3, 0, none⟩) a3.ps.length a3.ps.length]) := FX3.out.below hb FX3.out.lt
      have FZ : Hid (Blk v_36 r2 [.int .i64 0, .int .i64 0, .slice none 0 0]) := FZ.out.below hb FZ.out.lt
      clear hb
      clear ho
      try dsimp only
      refine hK.out _ _ (by (try dsimp only); first | exact ⟨F0.out, FX2.out, FX3.out⟩ | go_keep) (fun hHeld => ?_)
      clear hK K
      try simp only [Act.put, List.getElem_toArray, List.getElem_cons_succ, List.getElem_cons_zero, List.setIfInBounds_toArray, List.set_cons_zero, List.set_cons_succ]
      refine wpAnyH_ready (rs := [7]) (by kernel_rfl) (by simp) ?_
      refine (AllReadyH.cons rfl (fun K hK => ?_) AllReadyH.nil)
      have z0_ := FZ.out.c 0 _ rfl
      have z1_ := FZ.out.c 1 _ rfl
      have z2_ := FZ.out.c 2 _ rfl
      have y0_ := FZ.out.f 0 (Nat.le_of_ble_eq_true rfl)
      have y1_ := FZ.out.f 1 (Nat.le_of_ble_eq_true rfl)
      have y2_ := FZ.out.f 2 (Nat.le_of_ble_eq_true rfl)
      go_simp
      obtain ⟨v_37, hw2⟩ : ∃ v_37, v_37 = putB v_36 r2 0 [.int .i64 rk, .int .i64 0, .slice s2 rl.length c2] := ⟨_, rfl⟩
      change K _ (putB v_36 r2 0 [.int .i64 rk, .int .i64 0, .slice s2 rl.length c2])
      rw [← hw2]
      clear z0_ z1_ z2_ y0_ y1_ y2_
      have F0 : Hid (Blk v_37 w.heap.size [.int .i64 a0.fl, .int .i64 a0.gp, .int .i64 a0.ln, .int .i64 a0.rf, .int .i64 a0.sp, .int .i64 a0.pu, .int .i64 a0.br, .int .i64 a0.dr, .int .i64 a0.lv, .int .i64 a0.dO, .int .i64 a0.ld, .int .i64 a0.qu]) := by rw [hw2]; exact Blk.putB_other (by omega) _ _ F0.out
      have F1 : Hid (Blk v_37 (w.heap.size + 1) [.int .i64 a2.nx, .slice p2 a2.ps.length n2]) := by rw [hw2]; exact Blk.putB_other (by omega) _ _ F1.out
      have F2 : Hid (Blk v_37 (w.heap.size + 2) [.int .i64 a3.nx, .slice p3 a3.ps.length n3]) := by rw [hw2]; exact Blk.putB_other (by omega) _ _ F2.out
      have FB : Hid (Below w.heap.size w v_37) := by rw [hw2]; exact below_putB FB.out (by omega) _ _
      have FR1 : Hid (Blk v_37 r1 [.int .i64 rk, .int .i64 0, .slice s1 rl.length c1]) := by rw [hw2]; exact Blk.putB_other (by omega) _ _ FR1.out
      have FO1 : Hid (OwnE v_37 w.heap.size (.slice s1 rl.length c1) rl) := by rw [hw2]; exact OwnE.putB (by intro k hk; have := nr2_oFO1 k hk; omega) _ _ _ FO1.out
      have G2 : Hid (Ow v_37 w.heap.size g2 a2.ps.length a2.ps.length a2.ps) := by rw [hw2]; exact Ow.putB (by omega) _ _ _ G2.out
      have FX2 : Hid (Blk v_37 x2 [.int .i64 a2.nx, .slice (some ⟨g2, 0, none⟩) a2.ps.length a2.ps.length]) := by rw [hw2]; exact Blk.putB_other (by omega) _ _ FX2.out
      have G3 : Hid (Ow v_37 w.heap.size g3 a3.ps.length a3.ps.length a3.ps) := by rw [hw2]; exact Ow.putB (by omega) _ _ _ G3.out
      have FX3 : Hid (Blk v_37 x3 [.int .i64 a3.nx, .slice (some ⟨g3, 0, none⟩) a3.ps.length a3.ps.length]) := by rw [hw2]; exact Blk.putB_other (by omega) _ _ FX3.out
      have FZ : Hid (Blk v_37 r2 [.int .i64 rk, .int .i64 0, .slice s2 rl.length c2]) := by rw [hw2]; exact FZ.out.put _ rfl
      have FO2 : Hid (OwnE v_37 w.heap.size (.slice s2 rl.length c2) rl) := by rw [hw2]; exact OwnE.putB (by intro k hk; first | (have := nq2 k hk; omega) | (have := nr2_oFO2 k hk; omega)) _ _ _ FO2.out
      clear hw2
      refine hK.out _ _ (by (try dsimp only); first | exact ⟨F0.out, FX2.out, FX3.out⟩ | go_keep) (fun hHeld => ?_)
      clear hK K
      try simp only [Act.put, List.getElem_toArray, List.getElem_cons_succ, List.getElem_cons_zero, List.setIfInBounds_toArray, List.set_cons_zero, List.set_cons_succ]
      refine wpAnyH_done (by kernel_rfl) ?_ _
      go_wp2_with fail
      go_meet
      case rel => exact ⟨r2, s2, c2, rfl, R2, (by intro k hk; first | (have := nq2 k hk; omega) | (have := nr2_oFO2 k hk; omega)), (by omega), F0.out, F1.out, F2.out, FB.out, FR1.out, FO1.out, G2.out, FX2.out, G3.out, FX3.out, FZ.out, FO2.out⟩
  case rest =>
  obtain ⟨r2, s2, c2, rfl, R2, Q2, M2, hcut'⟩ := hcut
  obtain ⟨hF0, hF1, hF2, hFB, hFR1, hFO1, hG2, hFX2, hG3, hFX3, hFR2, hFO2⟩ := hcut'
  have F0 : Hid (Blk wc w.heap.size [.int .i64 a0.fl, .int .i64 a0.gp, .int .i64 a0.ln, .int .i64 a0.rf, .int .i64 a0.sp, .int .i64 a0.pu, .int .i64 a0.br, .int .i64 a0.dr, .int .i64 a0.lv, .int .i64 a0.dO, .int .i64 a0.ld, .int .i64 a0.qu]) := hF0
  have F1 : Hid (Blk wc (w.heap.size + 1) [.int .i64 a2.nx, .slice p2 a2.ps.length n2]) := hF1
  have F2 : Hid (Blk wc (w.heap.size + 2) [.int .i64 a3.nx, .slice p3 a3.ps.length n3]) := hF2
  have FB : Hid (Below w.heap.size w wc) := hFB
  have FR1 : Hid (Blk wc r1 [.int .i64 rk, .int .i64 0, .slice s1 rl.length c1]) := hFR1
  have FO1 : Hid (OwnE wc w.heap.size (.slice s1 rl.length c1) rl) := hFO1
  have G2 : Hid (Ow wc w.heap.size g2 a2.ps.length a2.ps.length a2.ps) := hG2
  have FX2 : Hid (Blk wc x2 [.int .i64 a2.nx, .slice (some ⟨g2, 0, none⟩) a2.ps.length a2.ps.length]) := hFX2
  have G3 : Hid (Ow wc w.heap.size g3 a3.ps.length a3.ps.length a3.ps) := hG3
  have FX3 : Hid (Blk wc x3 [.int .i64 a3.nx, .slice (some ⟨g3, 0, none⟩) a3.ps.length a3.ps.length]) := hFX3
  have FR2 : Hid (Blk wc r2 [.int .i64 rk, .int .i64 0, .slice s2 rl.length c2]) := hFR2
  have FO2 : Hid (OwnE wc w.heap.size (.slice s2 rl.length c2) rl) := hFO2
  clear hF0 hF1 hF2 hFB hFR1 hFO1 hG2 hFX2 hG3 hFX3 hFR2 hFO2
  go_upto_region 14 with (first | (refine load_blk 30 _ Try.underlying30 (by kernel_rfl) FR2.out rfl rfl rfl ?_) | (refine load_blk 30 _ Try.underlying30 (by kernel_rfl) FR1.out rfl rfl rfl ?_) | (go_at_call 9; refine (eqEventsResult_same rk 0 s2 s1 c2 c1 rl hrl _ FO2.out.einS FO1.out.einS).mono ?_; rintro e w7 ⟨rfl, hb⟩; have F0 : Hid (Blk w7 w.heap.size [.int .i64 a0.fl, .int .i64 a0.gp, .int .i64 a0.ln, .int .i64 a0.rf, .int .i64 a0.sp, .int .i64 a0.pu, .int .i64 a0.br, .int .i64 a0.dr, .int .i64 a0.lv, .int .i64 a0.dO, .int .i64 a0.ld, .int .i64 a0.qu]) := F0.out.below hb F0.out.lt; have F1 : Hid (Blk w7 (w.heap.size + 1) [.int .i64 a2.nx, .slice p2 a2.ps.length n2]) := F1.out.below hb F1.out.lt; have F2 : Hid (Blk w7 (w.heap.size + 2) [.int .i64 a3.nx, .slice p3 a3.ps.length n3]) := F2.out.below hb F2.out.lt; have FB : Hid (Below w.heap.size w w7) := FB.out.trans (hb.mono FB.out.size); have FR1 : Hid (Blk w7 r1 [.int .i64 rk, .int .i64 0, .slice s1 rl.length c1]) := FR1.out.below hb FR1.out.lt; have FO1 : Hid (OwnE w7 w.heap.size (.slice s1 rl.length c1) rl) := FO1.out.below hb (fun k hk => (FO1.out.lt k hk).2); have G2 : Hid (Ow w7 w.heap.size g2 a2.ps.length a2.ps.length a2.ps) := G2.out.below hb G2.out.lt; have FX2 : Hid (Blk w7 x2 [.int .i64 a2.nx, .slice (some ⟨g2, 0, none⟩) a2.ps.length a2.ps.length]) := FX2.out.below hb FX2.out.lt; have G3 : Hid (Ow w7 w.heap.size g3 a3.ps.length a3.ps.length a3.ps) := G3.out.below hb G3.out.lt; have FX3 : Hid (Blk w7 x3 [.int .i64 a3.nx, .slice (some ⟨g3, 0, none⟩) a3.ps.length a3.ps.length]) := FX3.out.below hb FX3.out.lt; have FR2 : Hid (Blk w7 r2 [.int .i64 rk, .int .i64 0, .slice s2 rl.length c2]) := FR2.out.below hb FR2.out.lt; have FO2 : Hid (OwnE w7 w.heap.size (.slice s2 rl.length c2) rl) := FO2.out.below hb (fun k hk => (FO2.out.lt k hk).2); clear hb))
  have F0 : Hid (Blk w7.drew w.heap.size [.int .i64 a0.fl, .int .i64 a0.gp, .int .i64 a0.ln, .int .i64 a0.rf, .int .i64 a0.sp, .int .i64 a0.pu, .int .i64 a0.br, .int .i64 a0.dr, .int .i64 a0.lv, .int .i64 a0.dO, .int .i64 a0.ld, .int .i64 a0.qu]) := F0.out.below (Below.refl _ _).drew F0.out.lt
  have F1 : Hid (Blk w7.drew (w.heap.size + 1) [.int .i64 a2.nx, .slice p2 a2.ps.length n2]) := F1.out.below (Below.refl _ _).drew F1.out.lt
  have F2 : Hid (Blk w7.drew (w.heap.size + 2) [.int .i64 a3.nx, .slice p3 a3.ps.length n3]) := F2.out.below (Below.refl _ _).drew F2.out.lt
  have FB : Hid (Below w.heap.size w w7.drew) := FB.out.drew
  have FR1 : Hid (Blk w7.drew r1 [.int .i64 rk, .int .i64 0, .slice s1 rl.length c1]) := FR1.out.below (Below.refl _ _).drew FR1.out.lt
  have FO1 : Hid (OwnE w7.drew w.heap.size (.slice s1 rl.length c1) rl) := FO1.out.drew
  have G2 : Hid (Ow w7.drew w.heap.size g2 a2.ps.length a2.ps.length a2.ps) := G2.out.below (Below.refl _ _).drew G2.out.lt
  have FX2 : Hid (Blk w7.drew x2 [.int .i64 a2.nx, .slice (some ⟨g2, 0, none⟩) a2.ps.length a2.ps.length]) := FX2.out.below (Below.refl _ _).drew FX2.out.lt
  have G3 : Hid (Ow w7.drew w.heap.size g3 a3.ps.length a3.ps.length a3.ps) := G3.out.below (Below.refl _ _).drew G3.out.lt
  have FX3 : Hid (Blk w7.drew x3 [.int .i64 a3.nx, .slice (some ⟨g3, 0, none⟩) a3.ps.length a3.ps.length]) := FX3.out.below (Below.refl _ _).drew FX3.out.lt
  have FR2 : Hid (Blk w7.drew r2 [.int .i64 rk, .int .i64 0, .slice s2 rl.length c2]) := FR2.out.below (Below.refl _ _).drew FR2.out.lt
  have FO2 : Hid (OwnE w7.drew w.heap.size (.slice s2 rl.length c2) rl) := FO2.out.drew
  refine wp_region_held_drew (S := (fun w'' => Blk w'' x2 ([.int .i64 a2.nx, .slice (some ⟨g2, 0, none⟩) a2.ps.length a2.ps.length]) ∧ Blk w'' (w.heap.size + 1) ([.int .i64 a2.nx, .slice p2 a2.ps.length n2]))) (by kernel_rfl) (by (try dsimp only); first | exact ⟨FX2.out, F1.out⟩ | go_keep) (fun hHeld => ?_)
  obtain ⟨v_38, hw1⟩ : ∃ v_38, v_38 = w7.drew := ⟨_, rfl⟩
  have F0 : Hid (Blk v_38 w.heap.size [.int .i64 a0.fl, .int .i64 a0.gp, .int .i64 a0.ln, .int .i64 a0.rf, .int .i64 a0.sp, .int .i64 a0.pu, .int .i64 a0.br, .int .i64 a0.dr, .int .i64 a0.lv, .int .i64 a0.dO, .int .i64 a0.ld, .int .i64 a0.qu]) := by rw [hw1]; exact F0.out
  have F1 : Hid (Blk v_38 (w.heap.size + 1) [.int .i64 a2.nx, .slice p2 a2.ps.length n2]) := by rw [hw1]; exact F1.out
  have F2 : Hid (Blk v_38 (w.heap.size + 2) [.int .i64 a3.nx, .slice p3 a3.ps.length n3]) := by rw [hw1]; exact F2.out
  have FB : Hid (Below w.heap.size w v_38) := by rw [hw1]; exact FB.out
  have FR1 : Hid (Blk v_38 r1 [.int .i64 rk, .int .i64 0, .slice s1 rl.length c1]) := by rw [hw1]; exact FR1.out
  have FO1 : Hid (OwnE v_38 w.heap.size (.slice s1 rl.length c1) rl) := by rw [hw1]; exact FO1.out
  have G2 : Hid (Ow v_38 w.heap.size g2 a2.ps.length a2.ps.length a2.ps) := by rw [hw1]; exact G2.out
  have FX2 : Hid (Blk v_38 x2 [.int .i64 a2.nx, .slice (some ⟨g2, 0, none⟩) a2.ps.length a2.ps.length]) := by rw [hw1]; exact FX2.out
  have G3 : Hid (Ow v_38 w.heap.size g3 a3.ps.length a3.ps.length a3.ps) := by rw [hw1]; exact G3.out
  have FX3 : Hid (Blk v_38 x3 [.int .i64 a3.nx, .slice (some ⟨g3, 0, none⟩) a3.ps.length a3.ps.length]) := by rw [hw1]; exact FX3.out
  have FR2 : Hid (Blk v_38 r2 [.int .i64 rk, .int .i64 0, .slice s2 rl.length c2]) := by rw [hw1]; exact FR2.out
  have FO2 : Hid (OwnE v_38 w.heap.size (.slice s2 rl.length c2) rl) := by rw [hw1]; exact FO2.out
  rw [← hw1] at hHeld ⊢
  clear hw1
  refine tkz 0 rfl ?_ (hy := Or.inl ⟨by kernel_rfl, fun wx hSw => exec_load_blk 36 _ Try.underlying36 (by kernel_rfl) rfl rfl hSw.1⟩)
  refine tkz 1 rfl ?_ (hy := Or.inl ⟨by kernel_rfl, fun wx hSw => exec_load_blk 26 _ Try.underlying26 (by kernel_rfl) rfl rfl hSw.2⟩)
  refine wpAnyH_ready (rs := [2]) (by kernel_rfl) (by simp) ?_
  refine (AllReadyH.cons rfl (fun K hK => ?_) AllReadyH.nil)
  go_simp
  refine (toLedger_any a2.nx p2 n2 a2.ps hl2 _ ((HP2.out.below FB.out (Nat.le_refl _)).mono FB.out.size)).mono ?_
  rintro e v_39 ⟨g9, rfl, ho, hb⟩
  have Gq : Hid (Ow v_39 w.heap.size g9 a2.ps.length a2.ps.length a2.ps) := ho.base FB.out.size
  have F0 : Hid (Blk v_39 w.heap.size [.int .i64 a0.fl, .int .i64 a0.gp, .int .i64 a0.ln, .int .i64 a0.rf, .int .i64 a0.sp, .int .i64 a0.pu, .int .i64 a0.br, .int .i64 a0.dr, .int .i64 a0.lv, .int .i64 a0.dO, .int .i64 a0.ld, .int .i64 a0.qu]) := F0.out.below hb F0.out.lt
  have F1 : Hid (Blk v_39 (w.heap.size + 1) [.int .i64 a2.nx, .slice p2 a2.ps.length n2]) := F1.out.below hb F1.out.lt
  have F2 : Hid (Blk v_39 (w.heap.size + 2) [.int .i64 a3.nx, .slice p3 a3.ps.length n3]) := F2.out.below hb F2.out.lt
  have FB : Hid (Below w.heap.size w v_39) := FB.out.trans (hb.mono FB.out.size)
  have FR1 : Hid (Blk v_39 r1 [.int .i64 rk, .int .i64 0, .slice s1 rl.length c1]) := FR1.out.below hb FR1.out.lt
  have FO1 : Hid (OwnE v_39 w.heap.size (.slice s1 rl.length c1) rl) := FO1.out.below hb (fun k hk => (FO1.out.lt k hk).2)
  have G2 : Hid (Ow v_39 w.heap.size g2 a2.ps.length a2.ps.length a2.ps) := G2.out.below hb G2.out.lt
  have FX2 : Hid (Blk v_39 x2 [.int .i64 a2.nx, .slice (some ⟨g2, 0, none⟩) a2.ps.length a2.ps.length]) := FX2.out.below hb FX2.out.lt
  have G3 : Hid (Ow v_39 w.heap.size g3 a3.ps.length a3.ps.length a3.ps) := G3.out.below hb G3.out.lt
  have FX3 : Hid (Blk v_39 x3 [.int .i64 a3.nx, .slice (some ⟨g3, 0, none⟩) a3.ps.length a3.ps.length]) := FX3.out.below hb FX3.out.lt
  have FR2 : Hid (Blk v_39 r2 [.int .i64 rk, .int .i64 0, .slice s2 rl.length c2]) := FR2.out.below hb FR2.out.lt
  have FO2 : Hid (OwnE v_39 w.heap.size (.slice s2 rl.length c2) rl) := FO2.out.below hb (fun k hk => (FO2.out.lt k hk).2)
  clear hb
  clear ho
  try dsimp only
  refine hK.out _ _ (by (try dsimp only); first | exact ⟨FX2.out, F1.out⟩ | go_keep) (fun hHeld => ?_)
  clear hK K
  try simp only [Act.put, List.getElem_toArray, List.getElem_cons_succ, List.getElem_cons_zero, List.setIfInBounds_toArray, List.set_cons_zero, List.set_cons_succ]
  refine wpAnyH_ready (rs := [3]) (by kernel_rfl) (by simp) ?_
  refine (AllReadyH.cons rfl (fun K hK => ?_) AllReadyH.nil)
  go_simp
  refine (eqLedger_same a2.nx (some ⟨g2, 0, none⟩) (some ⟨g9, 0, none⟩) a2.ps.length a2.ps.length a2.ps hl2 _ (G2.out.pin G2.out.bl.2) (Gq.out.pin Gq.out.bl.2)).mono ?_
  rintro e v_40 ⟨rfl, hb⟩
  have F0 : Hid (Blk v_40 w.heap.size [.int .i64 a0.fl, .int .i64 a0.gp, .int .i64 a0.ln, .int .i64 a0.rf, .int .i64 a0.sp, .int .i64 a0.pu, .int .i64 a0.br, .int .i64 a0.dr, .int .i64 a0.lv, .int .i64 a0.dO, .int .i64 a0.ld, .int .i64 a0.qu]) := F0.out.below hb F0.out.lt
  have F1 : Hid (Blk v_40 (w.heap.size + 1) [.int .i64 a2.nx, .slice p2 a2.ps.length n2]) := F1.out.below hb F1.out.lt
  have F2 : Hid (Blk v_40 (w.heap.size + 2) [.int .i64 a3.nx, .slice p3 a3.ps.length n3]) := F2.out.below hb F2.out.lt
  have FB : Hid (Below w.heap.size w v_40) := FB.out.trans (hb.mono FB.out.size)
  have FR1 : Hid (Blk v_40 r1 [.int .i64 rk, .int .i64 0, .slice s1 rl.length c1]) := FR1.out.below hb FR1.out.lt
  have FO1 : Hid (OwnE v_40 w.heap.size (.slice s1 rl.length c1) rl) := FO1.out.below hb (fun k hk => (FO1.out.lt k hk).2)
  have G2 : Hid (Ow v_40 w.heap.size g2 a2.ps.length a2.ps.length a2.ps) := G2.out.below hb G2.out.lt
  have FX2 : Hid (Blk v_40 x2 [.int .i64 a2.nx, .slice (some ⟨g2, 0, none⟩) a2.ps.length a2.ps.length]) := FX2.out.below hb FX2.out.lt
  have G3 : Hid (Ow v_40 w.heap.size g3 a3.ps.length a3.ps.length a3.ps) := G3.out.below hb G3.out.lt
  have FX3 : Hid (Blk v_40 x3 [.int .i64 a3.nx, .slice (some ⟨g3, 0, none⟩) a3.ps.length a3.ps.length]) := FX3.out.below hb FX3.out.lt
  have FR2 : Hid (Blk v_40 r2 [.int .i64 rk, .int .i64 0, .slice s2 rl.length c2]) := FR2.out.below hb FR2.out.lt
  have FO2 : Hid (OwnE v_40 w.heap.size (.slice s2 rl.length c2) rl) := FO2.out.below hb (fun k hk => (FO2.out.lt k hk).2)
  have Gq : Hid (Ow v_40 w.heap.size g9 a2.ps.length a2.ps.length a2.ps) := Gq.out.below hb Gq.out.lt
  clear hb
  try dsimp only
  refine hK.out _ _ (by (try dsimp only); first | exact ⟨FX2.out, F1.out⟩ | go_keep) (fun hHeld => ?_)
  clear hK K
  try simp only [Act.put, List.getElem_toArray, List.getElem_cons_succ, List.getElem_cons_zero, List.setIfInBounds_toArray, List.set_cons_zero, List.set_cons_succ]
  refine tkz 4 rfl ?_
  refine wpAnyH_done (by kernel_rfl) ?_ _
  obtain ⟨w8, hw8⟩ : ∃ w8, w8 = v_40 := ⟨_, rfl⟩
  subst hw8
  go_upto_region 16 with fail
  have F0 : Hid (Blk w8.drew w.heap.size [.int .i64 a0.fl, .int .i64 a0.gp, .int .i64 a0.ln, .int .i64 a0.rf, .int .i64 a0.sp, .int .i64 a0.pu, .int .i64 a0.br, .int .i64 a0.dr, .int .i64 a0.lv, .int .i64 a0.dO, .int .i64 a0.ld, .int .i64 a0.qu]) := F0.out.below (Below.refl _ _).drew F0.out.lt
  have F1 : Hid (Blk w8.drew (w.heap.size + 1) [.int .i64 a2.nx, .slice p2 a2.ps.length n2]) := F1.out.below (Below.refl _ _).drew F1.out.lt
  have F2 : Hid (Blk w8.drew (w.heap.size + 2) [.int .i64 a3.nx, .slice p3 a3.ps.length n3]) := F2.out.below (Below.refl _ _).drew F2.out.lt
  have FB : Hid (Below w.heap.size w w8.drew) := FB.out.drew
  have FR1 : Hid (Blk w8.drew r1 [.int .i64 rk, .int .i64 0, .slice s1 rl.length c1]) := FR1.out.below (Below.refl _ _).drew FR1.out.lt
  have FO1 : Hid (OwnE w8.drew w.heap.size (.slice s1 rl.length c1) rl) := FO1.out.drew
  have G2 : Hid (Ow w8.drew w.heap.size g2 a2.ps.length a2.ps.length a2.ps) := G2.out.below (Below.refl _ _).drew G2.out.lt
  have FX2 : Hid (Blk w8.drew x2 [.int .i64 a2.nx, .slice (some ⟨g2, 0, none⟩) a2.ps.length a2.ps.length]) := FX2.out.below (Below.refl _ _).drew FX2.out.lt
  have G3 : Hid (Ow w8.drew w.heap.size g3 a3.ps.length a3.ps.length a3.ps) := G3.out.below (Below.refl _ _).drew G3.out.lt
  have FX3 : Hid (Blk w8.drew x3 [.int .i64 a3.nx, .slice (some ⟨g3, 0, none⟩) a3.ps.length a3.ps.length]) := FX3.out.below (Below.refl _ _).drew FX3.out.lt
  have FR2 : Hid (Blk w8.drew r2 [.int .i64 rk, .int .i64 0, .slice s2 rl.length c2]) := FR2.out.below (Below.refl _ _).drew FR2.out.lt
  have FO2 : Hid (OwnE w8.drew w.heap.size (.slice s2 rl.length c2) rl) := FO2.out.drew
  refine wp_region_held_drew (S := (fun w'' => Blk w'' x3 ([.int .i64 a3.nx, .slice (some ⟨g3, 0, none⟩) a3.ps.length a3.ps.length]) ∧ Blk w'' (w.heap.size + 2) ([.int .i64 a3.nx, .slice p3 a3.ps.length n3]))) (by kernel_rfl) (by (try dsimp only); first | exact ⟨FX3.out, F2.out⟩ | go_keep) (fun hHeld => ?_)
  obtain ⟨v_41, hw1⟩ : ∃ v_41, v_41 = w8.drew := ⟨_, rfl⟩
  have F0 : Hid (Blk v_41 w.heap.size [.int .i64 a0.fl, .int .i64 a0.gp, .int .i64 a0.ln, .int .i64 a0.rf, .int .i64 a0.sp, .int .i64 a0.pu, .int .i64 a0.br, .int .i64 a0.dr, .int .i64 a0.lv, .int .i64 a0.dO, .int .i64 a0.ld, .int .i64 a0.qu]) := by rw [hw1]; exact F0.out
  have F1 : Hid (Blk v_41 (w.heap.size + 1) [.int .i64 a2.nx, .slice p2 a2.ps.length n2]) := by rw [hw1]; exact F1.out
  have F2 : Hid (Blk v_41 (w.heap.size + 2) [.int .i64 a3.nx, .slice p3 a3.ps.length n3]) := by rw [hw1]; exact F2.out
  have FB : Hid (Below w.heap.size w v_41) := by rw [hw1]; exact FB.out
  have FR1 : Hid (Blk v_41 r1 [.int .i64 rk, .int .i64 0, .slice s1 rl.length c1]) := by rw [hw1]; exact FR1.out
  have FO1 : Hid (OwnE v_41 w.heap.size (.slice s1 rl.length c1) rl) := by rw [hw1]; exact FO1.out
  have G2 : Hid (Ow v_41 w.heap.size g2 a2.ps.length a2.ps.length a2.ps) := by rw [hw1]; exact G2.out
  have FX2 : Hid (Blk v_41 x2 [.int .i64 a2.nx, .slice (some ⟨g2, 0, none⟩) a2.ps.length a2.ps.length]) := by rw [hw1]; exact FX2.out
  have G3 : Hid (Ow v_41 w.heap.size g3 a3.ps.length a3.ps.length a3.ps) := by rw [hw1]; exact G3.out
  have FX3 : Hid (Blk v_41 x3 [.int .i64 a3.nx, .slice (some ⟨g3, 0, none⟩) a3.ps.length a3.ps.length]) := by rw [hw1]; exact FX3.out
  have FR2 : Hid (Blk v_41 r2 [.int .i64 rk, .int .i64 0, .slice s2 rl.length c2]) := by rw [hw1]; exact FR2.out
  have FO2 : Hid (OwnE v_41 w.heap.size (.slice s2 rl.length c2) rl) := by rw [hw1]; exact FO2.out
  rw [← hw1] at hHeld ⊢
  clear hw1
  refine tkz 0 rfl ?_ (hy := Or.inl ⟨by kernel_rfl, fun wx hSw => exec_load_blk 36 _ Try.underlying36 (by kernel_rfl) rfl rfl hSw.1⟩)
  refine tkz 1 rfl ?_ (hy := Or.inl ⟨by kernel_rfl, fun wx hSw => exec_load_blk 26 _ Try.underlying26 (by kernel_rfl) rfl rfl hSw.2⟩)
  refine wpAnyH_ready (rs := [2]) (by kernel_rfl) (by simp) ?_
  refine (AllReadyH.cons rfl (fun K hK => ?_) AllReadyH.nil)
  go_simp
  refine (toLedger_any a3.nx p3 n3 a3.ps hl3 _ ((HP3.out.below FB.out (Nat.le_refl _)).mono FB.out.size)).mono ?_
  rintro e v_42 ⟨g9, rfl, ho, hb⟩
  have Gq : Hid (Ow v_42 w.heap.size g9 a3.ps.length a3.ps.length a3.ps) := ho.base FB.out.size
  have F0 : Hid (Blk v_42 w.heap.size [.int .i64 a0.fl, .int .i64 a0.gp, .int .i64 a0.ln, .int .i64 a0.rf, .int .i64 a0.sp, .int .i64 a0.pu, .int .i64 a0.br, .int .i64 a0.dr, .int .i64 a0.lv, .int .i64 a0.dO, .int .i64 a0.ld, .int .i64 a0.qu]) := F0.out.below hb F0.out.lt
  have F1 : Hid (Blk v_42 (w.heap.size + 1) [.int .i64 a2.nx, .slice p2 a2.ps.length n2]) := F1.out.below hb F1.out.lt
  have F2 : Hid (Blk v_42 (w.heap.size + 2) [.int .i64 a3.nx, .slice p3 a3.ps.length n3]) := F2.out.below hb F2.out.lt
  have FB : Hid (Below w.heap.size w v_42) := FB.out.trans (hb.mono FB.out.size)
  have FR1 : Hid (Blk v_42 r1 [.int .i64 rk, .int .i64 0, .slice s1 rl.length c1]) := FR1.out.below hb FR1.out.lt
  have FO1 : Hid (OwnE v_42 w.heap.size (.slice s1 rl.length c1) rl) := FO1.out.below hb (fun k hk => (FO1.out.lt k hk).2)
  have G2 : Hid (Ow v_42 w.heap.size g2 a2.ps.length a2.ps.length a2.ps) := G2.out.below hb G2.out.lt
  have FX2 : Hid (Blk v_42 x2 [.int .i64 a2.nx, .slice (some ⟨g2, 0, none⟩) a2.ps.length a2.ps.length]) := FX2.out.below hb FX2.out.lt
  have G3 : Hid (Ow v_42 w.heap.size g3 a3.ps.length a3.ps.length a3.ps) := G3.out.below hb G3.out.lt
  have FX3 : Hid (Blk v_42 x3 [.int .i64 a3.nx, .slice (some ⟨g3, 0, none⟩) a3.ps.length a3.ps.length]) := FX3.out.below hb FX3.out.lt
  have FR2 : Hid (Blk v_42 r2 [.int .i64 rk, .int .i64 0, .slice s2 rl.length c2]) := FR2.out.below hb FR2.out.lt
  have FO2 : Hid (OwnE v_42 w.heap.size (.slice s2 rl.length c2) rl) := FO2.out.below hb (fun k hk => (FO2.out.lt k hk).2)
  clear hb
  clear ho
  try dsimp only
  refine hK.out _ _ (by (try dsimp only); first | exact ⟨FX3.out, F2.out⟩ | go_keep) (fun hHeld => ?_)
  clear hK K
  try simp only [Act.put, List.getElem_toArray, List.getElem_cons_succ, List.getElem_cons_zero, List.setIfInBounds_toArray, List.set_cons_zero, List.set_cons_succ]
  refine wpAnyH_ready (rs := [3]) (by kernel_rfl) (by simp) ?_
  refine (AllReadyH.cons rfl (fun K hK => ?_) AllReadyH.nil)
  go_simp
  refine (eqLedger_same a3.nx (some ⟨g3, 0, none⟩) (some ⟨g9, 0, none⟩) a3.ps.length a3.ps.length a3.ps hl3 _ (G3.out.pin G3.out.bl.2) (Gq.out.pin Gq.out.bl.2)).mono ?_
  rintro e v_43 ⟨rfl, hb⟩
  have F0 : Hid (Blk v_43 w.heap.size [.int .i64 a0.fl, .int .i64 a0.gp, .int .i64 a0.ln, .int .i64 a0.rf, .int .i64 a0.sp, .int .i64 a0.pu, .int .i64 a0.br, .int .i64 a0.dr, .int .i64 a0.lv, .int .i64 a0.dO, .int .i64 a0.ld, .int .i64 a0.qu]) := F0.out.below hb F0.out.lt
  have F1 : Hid (Blk v_43 (w.heap.size + 1) [.int .i64 a2.nx, .slice p2 a2.ps.length n2]) := F1.out.below hb F1.out.lt
  have F2 : Hid (Blk v_43 (w.heap.size + 2) [.int .i64 a3.nx, .slice p3 a3.ps.length n3]) := F2.out.below hb F2.out.lt
  have FB : Hid (Below w.heap.size w v_43) := FB.out.trans (hb.mono FB.out.size)
  have FR1 : Hid (Blk v_43 r1 [.int .i64 rk, .int .i64 0, .slice s1 rl.length c1]) := FR1.out.below hb FR1.out.lt
  have FO1 : Hid (OwnE v_43 w.heap.size (.slice s1 rl.length c1) rl) := FO1.out.below hb (fun k hk => (FO1.out.lt k hk).2)
  have G2 : Hid (Ow v_43 w.heap.size g2 a2.ps.length a2.ps.length a2.ps) := G2.out.below hb G2.out.lt
  have FX2 : Hid (Blk v_43 x2 [.int .i64 a2.nx, .slice (some ⟨g2, 0, none⟩) a2.ps.length a2.ps.length]) := FX2.out.below hb FX2.out.lt
  have G3 : Hid (Ow v_43 w.heap.size g3 a3.ps.length a3.ps.length a3.ps) := G3.out.below hb G3.out.lt
  have FX3 : Hid (Blk v_43 x3 [.int .i64 a3.nx, .slice (some ⟨g3, 0, none⟩) a3.ps.length a3.ps.length]) := FX3.out.below hb FX3.out.lt
  have FR2 : Hid (Blk v_43 r2 [.int .i64 rk, .int .i64 0, .slice s2 rl.length c2]) := FR2.out.below hb FR2.out.lt
  have FO2 : Hid (OwnE v_43 w.heap.size (.slice s2 rl.length c2) rl) := FO2.out.below hb (fun k hk => (FO2.out.lt k hk).2)
  have Gq : Hid (Ow v_43 w.heap.size g9 a3.ps.length a3.ps.length a3.ps) := Gq.out.below hb Gq.out.lt
  clear hb
  try dsimp only
  refine hK.out _ _ (by (try dsimp only); first | exact ⟨FX3.out, F2.out⟩ | go_keep) (fun hHeld => ?_)
  clear hK K
  try simp only [Act.put, List.getElem_toArray, List.getElem_cons_succ, List.getElem_cons_zero, List.setIfInBounds_toArray, List.set_cons_zero, List.set_cons_succ]
  refine tkz 4 rfl ?_
  refine wpAnyH_done (by kernel_rfl) ?_ _
  obtain ⟨w9, hw9⟩ : ∃ w9, w9 = v_43 := ⟨_, rfl⟩
  subst hw9
  have hk1 : ¬ ((1 : Int) + 7 * (a2.ps.length : Int) + 7 * (a3.ps.length : Int) < 0) := by omega
  have hk1d : decide ((1 : Int) + 7 * (a2.ps.length : Int) + 7 * (a3.ps.length : Int) < 0) = false := decide_eq_false hk1
  have hk2 : ¬ ((1 : Int) + 5 * (rl.length : Int) < 0) := by omega
  go_upto_region 20 with (first | (refine load_blk 36 _ Try.underlying36 (by kernel_rfl) FX2.out rfl rfl rfl ?_) | (go_at_call 11; refine (markLedger_any w.heap.size a2.nx (.slice (some ⟨g2, 0, none⟩) a2.ps.length a2.ps.length) a2.ps 1 (by omega) (by omega) hl2 _ G2.out.own).mono ?_; rintro e w10 ⟨rfl, ho, ht⟩; clear ho; have F0 : Hid (Blk w10 w.heap.size [.int .i64 a0.fl, .int .i64 a0.gp, .int .i64 a0.ln, .int .i64 a0.rf, .int .i64 a0.sp, .int .i64 a0.pu, .int .i64 a0.br, .int .i64 a0.dr, .int .i64 a0.lv, .int .i64 a0.dO, .int .i64 a0.ld, .int .i64 a0.qu]) := F0.out.grown ht.g (ne_row (by omega)); have F1 : Hid (Blk w10 (w.heap.size + 1) [.int .i64 a2.nx, .slice p2 a2.ps.length n2]) := F1.out.grown ht.g (ne_row (by omega)); have F2 : Hid (Blk w10 (w.heap.size + 2) [.int .i64 a3.nx, .slice p3 a3.ps.length n3]) := F2.out.grown ht.g (ne_row (by omega)); have FB : Hid (Below w.heap.size w w10) := Turn.below FB.out ht (fun j hj => by have e : g2 = j := Option.some.inj hj; omega) FB.out.size; have FR1 : Hid (Blk w10 r1 [.int .i64 rk, .int .i64 0, .slice s1 rl.length c1]) := FR1.out.grown ht.g (ne_row (by omega)); have FO1 : Hid (OwnE w10 w.heap.size (.slice s1 rl.length c1) rl) := FO1.out.kept ht.g (Or.inr (fun e => absurd (U1 g2 e) (by omega))); have G3 : Hid (Ow w10 w.heap.size g3 a3.ps.length a3.ps.length a3.ps) := G3.out.kept ht.g (ne_row (by omega)); have FX3 : Hid (Blk w10 x3 [.int .i64 a3.nx, .slice (some ⟨g3, 0, none⟩) a3.ps.length a3.ps.length]) := FX3.out.grown ht.g (ne_row (by omega)); have FR2 : Hid (Blk w10 r2 [.int .i64 rk, .int .i64 0, .slice s2 rl.length c2]) := FR2.out.grown ht.g (ne_row (by omega)); have FO2 : Hid (OwnE w10 w.heap.size (.slice s2 rl.length c2) rl) := FO2.out.kept ht.g (Or.inr (fun e => absurd (R2 g2 e) (by omega))); have FX2 : Hid (Blk w10 x2 [.int .i64 a2.nx, .slice (some ⟨g2, 0, none⟩) a2.ps.length a2.ps.length]) := FX2.out.grown ht.g (ne_row (by omega)); clear ht G2))
  go_upto_region 21 with (first | (refine load_blk 36 _ Try.underlying36 (by kernel_rfl) FX3.out rfl rfl rfl ?_) | (go_at_call 11; refine (markLedger_any w.heap.size a3.nx (.slice (some ⟨g3, 0, none⟩) a3.ps.length a3.ps.length) a3.ps (1 + 7 * (a2.ps.length : Int)) (by omega) (by omega) hl3 _ G3.out.own).mono ?_; rintro e w11 ⟨rfl, ho, ht⟩; clear ho; have F0 : Hid (Blk w11 w.heap.size [.int .i64 a0.fl, .int .i64 a0.gp, .int .i64 a0.ln, .int .i64 a0.rf, .int .i64 a0.sp, .int .i64 a0.pu, .int .i64 a0.br, .int .i64 a0.dr, .int .i64 a0.lv, .int .i64 a0.dO, .int .i64 a0.ld, .int .i64 a0.qu]) := F0.out.grown ht.g (ne_row (by omega)); have F1 : Hid (Blk w11 (w.heap.size + 1) [.int .i64 a2.nx, .slice p2 a2.ps.length n2]) := F1.out.grown ht.g (ne_row (by omega)); have F2 : Hid (Blk w11 (w.heap.size + 2) [.int .i64 a3.nx, .slice p3 a3.ps.length n3]) := F2.out.grown ht.g (ne_row (by omega)); have FB : Hid (Below w.heap.size w w11) := Turn.below FB.out ht (fun j hj => by have e : g3 = j := Option.some.inj hj; omega) FB.out.size; have FR1 : Hid (Blk w11 r1 [.int .i64 rk, .int .i64 0, .slice s1 rl.length c1]) := FR1.out.grown ht.g (ne_row (by omega)); have FO1 : Hid (OwnE w11 w.heap.size (.slice s1 rl.length c1) rl) := FO1.out.kept ht.g (Or.inr (fun e => absurd (U1 g3 e) (by omega))); have FR2 : Hid (Blk w11 r2 [.int .i64 rk, .int .i64 0, .slice s2 rl.length c2]) := FR2.out.grown ht.g (ne_row (by omega)); have FO2 : Hid (OwnE w11 w.heap.size (.slice s2 rl.length c2) rl) := FO2.out.kept ht.g (Or.inr (fun e => absurd (R2 g3 e) (by omega))); clear ht G3))
  go_upto_region 23 with (first | (refine load_blkk 30 _ Try.underlying30 (by kernel_rfl) FR2.out (by kernel_rfl) rfl rfl ?_) | (refine load_blkk 30 _ Try.underlying30 (by kernel_rfl) FR1.out (by kernel_rfl) rfl rfl ?_) | (go_at_call 9; refine (eqEventsResult_same rk 0 s2 s1 c2 c1 rl hrl _ FO2.out.einS FO1.out.einS).mono ?_; rintro e w12 ⟨rfl, hb⟩; have F0 : Hid (Blk w12 w.heap.size [.int .i64 a0.fl, .int .i64 a0.gp, .int .i64 a0.ln, .int .i64 a0.rf, .int .i64 a0.sp, .int .i64 a0.pu, .int .i64 a0.br, .int .i64 a0.dr, .int .i64 a0.lv, .int .i64 a0.dO, .int .i64 a0.ld, .int .i64 a0.qu]) := F0.out.below hb F0.out.lt; have F1 : Hid (Blk w12 (w.heap.size + 1) [.int .i64 a2.nx, .slice p2 a2.ps.length n2]) := F1.out.below hb F1.out.lt; have F2 : Hid (Blk w12 (w.heap.size + 2) [.int .i64 a3.nx, .slice p3 a3.ps.length n3]) := F2.out.below hb F2.out.lt; have FB : Hid (Below w.heap.size w w12) := FB.out.trans (hb.mono FB.out.size); have FR1 : Hid (Blk w12 r1 [.int .i64 rk, .int .i64 0, .slice s1 rl.length c1]) := FR1.out.below hb FR1.out.lt; have FO1 : Hid (OwnE w12 w.heap.size (.slice s1 rl.length c1) rl) := FO1.out.below hb (fun k hk => (FO1.out.lt k hk).2); have FR2 : Hid (Blk w12 r2 [.int .i64 rk, .int .i64 0, .slice s2 rl.length c2]) := FR2.out.below hb FR2.out.lt; have FO2 : Hid (OwnE w12 w.heap.size (.slice s2 rl.length c2) rl) := FO2.out.below hb (fun k hk => (FO2.out.lt k hk).2); clear hb))
  go_wp2_with (first | (refine load_blk 30 _ Try.underlying30 (by kernel_rfl) FR2.out rfl rfl rfl ?_) | (go_at_call 12; refine (markEventsResult_any w.heap.size rk 0 (.slice s2 rl.length c2) rl 1 (by omega) (by omega) hrl _ FO2.out).mono ?_; rintro e w13 ⟨rfl, ho, ht⟩; have F0 : Hid (Blk w13 w.heap.size [.int .i64 a0.fl, .int .i64 a0.gp, .int .i64 a0.ln, .int .i64 a0.rf, .int .i64 a0.sp, .int .i64 a0.pu, .int .i64 a0.br, .int .i64 a0.dr, .int .i64 a0.lv, .int .i64 a0.dO, .int .i64 a0.ld, .int .i64 a0.qu]) := F0.out.grown ht.g (fun e => absurd (R2 _ e.symm) (by omega)); have F1 : Hid (Blk w13 (w.heap.size + 1) [.int .i64 a2.nx, .slice p2 a2.ps.length n2]) := F1.out.grown ht.g (fun e => absurd (R2 _ e.symm) (by omega)); have F2 : Hid (Blk w13 (w.heap.size + 2) [.int .i64 a3.nx, .slice p3 a3.ps.length n3]) := F2.out.grown ht.g (fun e => absurd (R2 _ e.symm) (by omega)); have FB : Hid (Below w.heap.size w w13) := Turn.below FB.out ht (fun j hj => by have := R2 j hj; omega) FB.out.size; have FR1 : Hid (Blk w13 r1 [.int .i64 rk, .int .i64 0, .slice s1 rl.length c1]) := FR1.out.grown ht.g (fun e => absurd (R2 _ e.symm) (by omega)); have FO1 : Hid (OwnE w13 w.heap.size (.slice s1 rl.length c1) rl) := FO1.out.kept ht.g (rowsE_ne (g := g2) U1 (fun k hk => by have := R2 k hk; omega)); have FR2 : Hid (Blk w13 r2 [.int .i64 rk, .int .i64 0, .slice s2 rl.length c2]) := FR2.out.grown ht.g (fun e => Q2 _ e.symm rfl); have FO2 : Hid (OwnE w13 w.heap.size (.slice s2 rl.length c2) (markEL 1 rl.length)) := ho; clear ht ho) | (go_at_call 13; refine (heldEventsResult_any w.heap.size rk 0 (.slice s2 rl.length c2) rl.length 1 (by omega) (by omega) hrl _ FO2.out).mono ?_; rintro e w14 ⟨rfl, hb⟩; have F0 : Hid (Blk w14 w.heap.size [.int .i64 a0.fl, .int .i64 a0.gp, .int .i64 a0.ln, .int .i64 a0.rf, .int .i64 a0.sp, .int .i64 a0.pu, .int .i64 a0.br, .int .i64 a0.dr, .int .i64 a0.lv, .int .i64 a0.dO, .int .i64 a0.ld, .int .i64 a0.qu]) := F0.out.below hb F0.out.lt; have F1 : Hid (Blk w14 (w.heap.size + 1) [.int .i64 a2.nx, .slice p2 a2.ps.length n2]) := F1.out.below hb F1.out.lt; have F2 : Hid (Blk w14 (w.heap.size + 2) [.int .i64 a3.nx, .slice p3 a3.ps.length n3]) := F2.out.below hb F2.out.lt; have FB : Hid (Below w.heap.size w w14) := FB.out.trans (hb.mono FB.out.size); have FR1 : Hid (Blk w14 r1 [.int .i64 rk, .int .i64 0, .slice s1 rl.length c1]) := FR1.out.below hb FR1.out.lt; have FO1 : Hid (OwnE w14 w.heap.size (.slice s1 rl.length c1) rl) := FO1.out.below hb (fun k hk => (FO1.out.lt k hk).2); have FR2 : Hid (Blk w14 r2 [.int .i64 rk, .int .i64 0, .slice s2 rl.length c2]) := FR2.out.below hb FR2.out.lt; have FO2 : Hid (OwnE w14 w.heap.size (.slice s2 rl.length c2) (markEL 1 rl.length)) := FO2.out.below hb (fun k hk => (FO2.out.lt k hk).2); clear hb))
  go_cut [17] (fun t wx => ∃ r3 s3 c3, t = .pointer (some ⟨r3, 0, none⟩) ∧ Blk wx w.heap.size [.int .i64 a0.fl, .int .i64 a0.gp, .int .i64 a0.ln, .int .i64 a0.rf, .int .i64 a0.sp, .int .i64 a0.pu, .int .i64 a0.br, .int .i64 a0.dr, .int .i64 a0.lv, .int .i64 a0.dO, .int .i64 a0.ld, .int .i64 a0.qu] ∧ Blk wx (w.heap.size + 1) [.int .i64 a2.nx, .slice p2 a2.ps.length n2] ∧ Blk wx (w.heap.size + 2) [.int .i64 a3.nx, .slice p3 a3.ps.length n3] ∧ Below w.heap.size w wx ∧ Blk wx r1 [.int .i64 rk, .int .i64 0, .slice s1 rl.length c1] ∧ OwnE wx w.heap.size (.slice s1 rl.length c1) rl ∧ Blk wx r2 [.int .i64 rk, .int .i64 0, .slice s2 rl.length c2] ∧ OwnE wx w.heap.size (.slice s2 rl.length c2) (markEL 1 rl.length) ∧ Blk wx r3 [.int .i64 rk, .int .i64 0, .slice s3 rl.length c3] ∧ OwnE wx w.heap.size (.slice s3 rl.length c3) rl)
  case first =>
    have F0 : Hid (Blk w14.drew w.heap.size [.int .i64 a0.fl, .int .i64 a0.gp, .int .i64 a0.ln, .int .i64 a0.rf, .int .i64 a0.sp, .int .i64 a0.pu, .int .i64 a0.br, .int .i64 a0.dr, .int .i64 a0.lv, .int .i64 a0.dO, .int .i64 a0.ld, .int .i64 a0.qu]) := F0.out.below (Below.refl _ _).drew F0.out.lt
    have F1 : Hid (Blk w14.drew (w.heap.size + 1) [.int .i64 a2.nx, .slice p2 a2.ps.length n2]) := F1.out.below (Below.refl _ _).drew F1.out.lt
    have F2 : Hid (Blk w14.drew (w.heap.size + 2) [.int .i64 a3.nx, .slice p3 a3.ps.length n3]) := F2.out.below (Below.refl _ _).drew F2.out.lt
    have FB : Hid (Below w.heap.size w w14.drew) := FB.out.drew
    have FR1 : Hid (Blk w14.drew r1 [.int .i64 rk, .int .i64 0, .slice s1 rl.length c1]) := FR1.out.below (Below.refl _ _).drew FR1.out.lt
    have FO1 : Hid (OwnE w14.drew w.heap.size (.slice s1 rl.length c1) rl) := FO1.out.drew
    have FR2 : Hid (Blk w14.drew r2 [.int .i64 rk, .int .i64 0, .slice s2 rl.length c2]) := FR2.out.below (Below.refl _ _).drew FR2.out.lt
    have FO2 : Hid (OwnE w14.drew w.heap.size (.slice s2 rl.length c2) (markEL 1 rl.length)) := FO2.out.drew
    refine wp_region_held_drew (S := (fun w'' => Blk w'' w.heap.size ([.int .i64 a0.fl, .int .i64 a0.gp, .int .i64 a0.ln, .int .i64 a0.rf, .int .i64 a0.sp, .int .i64 a0.pu, .int .i64 a0.br, .int .i64 a0.dr, .int .i64 a0.lv, .int .i64 a0.dO, .int .i64 a0.ld, .int .i64 a0.qu]) ∧ Blk w'' (w.heap.size + 1) ([.int .i64 a2.nx, .slice p2 a2.ps.length n2]) ∧ Blk w'' (w.heap.size + 2) ([.int .i64 a3.nx, .slice p3 a3.ps.length n3]))) (by kernel_rfl) (by (try dsimp only); first | exact ⟨F0.out, F1.out, F2.out⟩ | go_keep) (fun hHeld => ?_)
    obtain ⟨v_44, hw1⟩ : ∃ v_44, v_44 = w14.drew := ⟨_, rfl⟩
    have F0 : Hid (Blk v_44 w.heap.size [.int .i64 a0.fl, .int .i64 a0.gp, .int .i64 a0.ln, .int .i64 a0.rf, .int .i64 a0.sp, .int .i64 a0.pu, .int .i64 a0.br, .int .i64 a0.dr, .int .i64 a0.lv, .int .i64 a0.dO, .int .i64 a0.ld, .int .i64 a0.qu]) := by rw [hw1]; exact F0.out
    have F1 : Hid (Blk v_44 (w.heap.size + 1) [.int .i64 a2.nx, .slice p2 a2.ps.length n2]) := by rw [hw1]; exact F1.out
    have F2 : Hid (Blk v_44 (w.heap.size + 2) [.int .i64 a3.nx, .slice p3 a3.ps.length n3]) := by rw [hw1]; exact F2.out
    have FB : Hid (Below w.heap.size w v_44) := by rw [hw1]; exact FB.out
    have FR1 : Hid (Blk v_44 r1 [.int .i64 rk, .int .i64 0, .slice s1 rl.length c1]) := by rw [hw1]; exact FR1.out
    have FO1 : Hid (OwnE v_44 w.heap.size (.slice s1 rl.length c1) rl) := by rw [hw1]; exact FO1.out
    have FR2 : Hid (Blk v_44 r2 [.int .i64 rk, .int .i64 0, .slice s2 rl.length c2]) := by rw [hw1]; exact FR2.out
    have FO2 : Hid (OwnE v_44 w.heap.size (.slice s2 rl.length c2) (markEL 1 rl.length)) := by rw [hw1]; exact FO2.out
    rw [← hw1] at hHeld ⊢
    clear hw1
    refine tkz 0 rfl ?_ (hy := Or.inl ⟨by kernel_rfl, fun wx hSw => exec_load_blk 23 _ Try.underlying23 (by kernel_rfl) rfl rfl hSw.1⟩)
    refine tkz 2 rfl ?_
    refine tkz 3 rfl ?_ (hy := Or.inl ⟨by kernel_rfl, fun wx hSw => exec_load_blk 26 _ Try.underlying26 (by kernel_rfl) rfl rfl hSw.2.1⟩)
    refine tkz 5 rfl ?_ (hy := Or.inl ⟨by kernel_rfl, fun wx hSw => exec_load_blk 26 _ Try.underlying26 (by kernel_rfl) rfl rfl hSw.2.2⟩)
    refine wpAnyH_ready (rs := [1, 8]) (by kernel_rfl) (by simp) ?_
    refine (AllReadyH.cons rfl (fun K hK => ?_) (AllReadyH.cons rfl (fun K hK => ?_) AllReadyH.nil))
    · go_simp
      refine (toHouse_any a0 _).mono ?_
      rintro e v_45 ⟨rfl, hb⟩
      have F0 : Hid (Blk v_45 w.heap.size [.int .i64 a0.fl, .int .i64 a0.gp, .int .i64 a0.ln, .int .i64 a0.rf, .int .i64 a0.sp, .int .i64 a0.pu, .int .i64 a0.br, .int .i64 a0.dr, .int .i64 a0.lv, .int .i64 a0.dO, .int .i64 a0.ld, .int .i64 a0.qu]) := F0.out.below hb F0.out.lt
      have F1 : Hid (Blk v_45 (w.heap.size + 1) [.int .i64 a2.nx, .slice p2 a2.ps.length n2]) := F1.out.below hb F1.out.lt
      have F2 : Hid (Blk v_45 (w.heap.size + 2) [.int .i64 a3.nx, .slice p3 a3.ps.length n3]) := F2.out.below hb F2.out.lt
      have FB : Hid (Below w.heap.size w v_45) := FB.out.trans (hb.mono FB.out.size)
      have FR1 : Hid (Blk v_45 r1 [.int .i64 rk, .int .i64 0, .slice s1 rl.length c1]) := FR1.out.below hb FR1.out.lt
      have FO1 : Hid (OwnE v_45 w.heap.size (.slice s1 rl.length c1) rl) := FO1.out.below hb (fun k hk => (FO1.out.lt k hk).2)
      have FR2 : Hid (Blk v_45 r2 [.int .i64 rk, .int .i64 0, .slice s2 rl.length c2]) := FR2.out.below hb FR2.out.lt
      have FO2 : Hid (OwnE v_45 w.heap.size (.slice s2 rl.length c2) (markEL 1 rl.length)) := FO2.out.below hb (fun k hk => (FO2.out.lt k hk).2)
      clear hb
      try dsimp only
      refine hK.out _ _ (by (try dsimp only); first | exact ⟨F0.out, F1.out, F2.out⟩ | go_keep) (fun hHeld => ?_)
      clear hK K
      try simp only [Act.put, List.getElem_toArray, List.getElem_cons_succ, List.getElem_cons_zero, List.setIfInBounds_toArray, List.set_cons_zero, List.set_cons_succ]
      refine wpAnyH_ready (rs := [4, 8]) (by kernel_rfl) (by simp) ?_
      refine (AllReadyH.cons rfl (fun K hK => ?_) (AllReadyH.cons rfl (fun K hK => ?_) AllReadyH.nil))
      · go_simp
        refine (toLedger_any a2.nx p2 n2 a2.ps hl2 _ ((HP2.out.below FB.out (Nat.le_refl _)).mono FB.out.size)).mono ?_
        rintro e v_46 ⟨g0, rfl, ho, hb⟩
        have Ga : Hid (Ow v_46 w.heap.size g0 a2.ps.length a2.ps.length a2.ps) := ho.base FB.out.size
        have F0 : Hid (Blk v_46 w.heap.size [.int .i64 a0.fl, .int .i64 a0.gp, .int .i64 a0.ln, .int .i64 a0.rf, .int .i64 a0.sp, .int .i64 a0.pu, .int .i64 a0.br, .int .i64 a0.dr, .int .i64 a0.lv, .int .i64 a0.dO, .int .i64 a0.ld, .int .i64 a0.qu]) := F0.out.below hb F0.out.lt
        have F1 : Hid (Blk v_46 (w.heap.size + 1) [.int .i64 a2.nx, .slice p2 a2.ps.length n2]) := F1.out.below hb F1.out.lt
        have F2 : Hid (Blk v_46 (w.heap.size + 2) [.int .i64 a3.nx, .slice p3 a3.ps.length n3]) := F2.out.below hb F2.out.lt
        have FB : Hid (Below w.heap.size w v_46) := FB.out.trans (hb.mono FB.out.size)
        have FR1 : Hid (Blk v_46 r1 [.int .i64 rk, .int .i64 0, .slice s1 rl.length c1]) := FR1.out.below hb FR1.out.lt
        have FO1 : Hid (OwnE v_46 w.heap.size (.slice s1 rl.length c1) rl) := FO1.out.below hb (fun k hk => (FO1.out.lt k hk).2)
        have FR2 : Hid (Blk v_46 r2 [.int .i64 rk, .int .i64 0, .slice s2 rl.length c2]) := FR2.out.below hb FR2.out.lt
        have FO2 : Hid (OwnE v_46 w.heap.size (.slice s2 rl.length c2) (markEL 1 rl.length)) := FO2.out.below hb (fun k hk => (FO2.out.lt k hk).2)
        clear hb
        clear ho
        try dsimp only
        refine hK.out _ _ (by (try dsimp only); first | exact ⟨F0.out, F1.out, F2.out⟩ | go_keep) (fun hHeld => ?_)
        clear hK K
        try simp only [Act.put, List.getElem_toArray, List.getElem_cons_succ, List.getElem_cons_zero, List.setIfInBounds_toArray, List.set_cons_zero, List.set_cons_succ]
        refine wpAnyH_ready (rs := [6, 8]) (by kernel_rfl) (by simp) ?_
        refine (AllReadyH.cons rfl (fun K hK => ?_) (AllReadyH.cons rfl (fun K hK => ?_) AllReadyH.nil))
        · go_simp
          refine (toLedger_any a3.nx p3 n3 a3.ps hl3 _ ((HP3.out.below FB.out (Nat.le_refl _)).mono FB.out.size)).mono ?_
          rintro e v_47 ⟨g1, rfl, ho, hb⟩
          have Gb : Hid (Ow v_47 w.heap.size g1 a3.ps.length a3.ps.length a3.ps) := ho.base FB.out.size
          have F0 : Hid (Blk v_47 w.heap.size [.int .i64 a0.fl, .int .i64 a0.gp, .int .i64 a0.ln, .int .i64 a0.rf, .int .i64 a0.sp, .int .i64 a0.pu, .int .i64 a0.br, .int .i64 a0.dr, .int .i64 a0.lv, .int .i64 a0.dO, .int .i64 a0.ld, .int .i64 a0.qu]) := F0.out.below hb F0.out.lt
          have F1 : Hid (Blk v_47 (w.heap.size + 1) [.int .i64 a2.nx, .slice p2 a2.ps.length n2]) := F1.out.below hb F1.out.lt
          have F2 : Hid (Blk v_47 (w.heap.size + 2) [.int .i64 a3.nx, .slice p3 a3.ps.length n3]) := F2.out.below hb F2.out.lt
          have FB : Hid (Below w.heap.size w v_47) := FB.out.trans (hb.mono FB.out.size)
          have FR1 : Hid (Blk v_47 r1 [.int .i64 rk, .int .i64 0, .slice s1 rl.length c1]) := FR1.out.below hb FR1.out.lt
          have FO1 : Hid (OwnE v_47 w.heap.size (.slice s1 rl.length c1) rl) := FO1.out.below hb (fun k hk => (FO1.out.lt k hk).2)
          have FR2 : Hid (Blk v_47 r2 [.int .i64 rk, .int .i64 0, .slice s2 rl.length c2]) := FR2.out.below hb FR2.out.lt
          have FO2 : Hid (OwnE v_47 w.heap.size (.slice s2 rl.length c2) (markEL 1 rl.length)) := FO2.out.below hb (fun k hk => (FO2.out.lt k hk).2)
          have Ga : Hid (Ow v_47 w.heap.size g0 a2.ps.length a2.ps.length a2.ps) := Ga.out.below hb Ga.out.lt
          clear hb
          clear ho
          try dsimp only
          refine hK.out _ _ (by (try dsimp only); first | exact ⟨F0.out, F1.out, F2.out⟩ | go_keep) (fun hHeld => ?_)
          clear hK K
          try simp only [Act.put, List.getElem_toArray, List.getElem_cons_succ, List.getElem_cons_zero, List.setIfInBounds_toArray, List.set_cons_zero, List.set_cons_succ]
          refine wpAnyH_ready (rs := [7, 8]) (by kernel_rfl) (by simp) ?_
          refine (AllReadyH.cons rfl (fun K hK => ?_) (AllReadyH.cons rfl (fun K hK => ?_) AllReadyH.nil))
          · go_simp
            refine (CI w.heap.size g0 g1 _ Ga.out Gb.out).mono ?_
            rintro e v_48 ⟨s3, c3, rfl, ho, hb⟩
            first | (have nq3 : ∀ k, (Value.slice s3 rl.length c3).ownBlock = some k → r3 < k := fun k hk => Nat.lt_of_lt_of_le FZ.out.lt (ho.lt k hk).1) | skip
            have FO3 : Hid (OwnE v_48 w.heap.size (.slice s3 rl.length c3) rl) := ho.base FB.out.size
            have F0 : Hid (Blk v_48 w.heap.size [.int .i64 a0.fl, .int .i64 a0.gp, .int .i64 a0.ln, .int .i64 a0.rf, .int .i64 a0.sp, .int .i64 a0.pu, .int .i64 a0.br, .int .i64 a0.dr, .int .i64 a0.lv, .int .i64 a0.dO, .int .i64 a0.ld, .int .i64 a0.qu]) := F0.out.below hb F0.out.lt
            have F1 : Hid (Blk v_48 (w.heap.size + 1) [.int .i64 a2.nx, .slice p2 a2.ps.length n2]) := F1.out.below hb F1.out.lt
            have F2 : Hid (Blk v_48 (w.heap.size + 2) [.int .i64 a3.nx, .slice p3 a3.ps.length n3]) := F2.out.below hb F2.out.lt
            have FB : Hid (Below w.heap.size w v_48) := FB.out.trans (hb.mono FB.out.size)
            have FR1 : Hid (Blk v_48 r1 [.int .i64 rk, .int .i64 0, .slice s1 rl.length c1]) := FR1.out.below hb FR1.out.lt
            have FO1 : Hid (OwnE v_48 w.heap.size (.slice s1 rl.length c1) rl) := FO1.out.below hb (fun k hk => (FO1.out.lt k hk).2)
            have FR2 : Hid (Blk v_48 r2 [.int .i64 rk, .int .i64 0, .slice s2 rl.length c2]) := FR2.out.below hb FR2.out.lt
            have FO2 : Hid (OwnE v_48 w.heap.size (.slice s2 rl.length c2) (markEL 1 rl.length)) := FO2.out.below hb (fun k hk => (FO2.out.lt k hk).2)
            have Ga : Hid (Ow v_48 w.heap.size g0 a2.ps.length a2.ps.length a2.ps) := Ga.out.below hb Ga.out.lt
            have Gb : Hid (Ow v_48 w.heap.size g1 a3.ps.length a3.ps.length a3.ps) := Gb.out.below hb Gb.out.lt
            clear hb
            clear ho
            try dsimp only
            refine hK.out _ _ (by (try dsimp only); first | exact ⟨F0.out, F1.out, F2.out⟩ | go_keep) (fun hHeld => ?_)
            clear hK K
            try simp only [Act.put, List.getElem_toArray, List.getElem_cons_succ, List.getElem_cons_zero, List.setIfInBounds_toArray, List.set_cons_zero, List.set_cons_succ]
            refine wpAnyH_ready (rs := [8]) (by kernel_rfl) (by simp) ?_
            refine (AllReadyH.cons rfl (fun K hK => ?_) AllReadyH.nil)
            go_simp
            obtain ⟨r3, hbb⟩ : ∃ r3, r3 = v_48.heap.size := ⟨_, rfl⟩
            obtain ⟨v_49, hw2⟩ : ∃ v_49, v_49 = v_48.alloc (.cells #[.int .i64 0, .int .i64 0, .slice none 0 0] 30) := ⟨_, rfl⟩
            have nr3_0 := F0.out.lt
            rw [← hbb] at nr3_0
            have nr3_1 := F1.out.lt
            rw [← hbb] at nr3_1
            have nr3_2 := F2.out.lt
            rw [← hbb] at nr3_2
            have nr3_4 := FR1.out.lt
            rw [← hbb] at nr3_4
            have nr3_oFO1 := fun k hk => (FO1.out.lt k hk).2
            rw [← hbb] at nr3_oFO1
            have nr3_6 := FR2.out.lt
            rw [← hbb] at nr3_6
            have nr3_oFO2 := fun k hk => (FO2.out.lt k hk).2
            rw [← hbb] at nr3_oFO2
            have nr3_8 := Ga.out.lt
            rw [← hbb] at nr3_8
            have nr3_9 := Gb.out.lt
            rw [← hbb] at nr3_9
            have nr3_oFO3 := fun k hk => (FO3.out.lt k hk).2
            rw [← hbb] at nr3_oFO3
            have FZ : Hid (Blk v_49 r3 [.int .i64 0, .int .i64 0, .slice none 0 0]) := by rw [hw2]; exact Blk.at_ _ _ _ _ hbb
            have F0 : Hid (Blk v_49 w.heap.size [.int .i64 a0.fl, .int .i64 a0.gp, .int .i64 a0.ln, .int .i64 a0.rf, .int .i64 a0.sp, .int .i64 a0.pu, .int .i64 a0.br, .int .i64 a0.dr, .int .i64 a0.lv, .int .i64 a0.dO, .int .i64 a0.ld, .int .i64 a0.qu]) := by rw [hw2]; exact F0.out.alloc _
            have F1 : Hid (Blk v_49 (w.heap.size + 1) [.int .i64 a2.nx, .slice p2 a2.ps.length n2]) := by rw [hw2]; exact F1.out.alloc _
            have F2 : Hid (Blk v_49 (w.heap.size + 2) [.int .i64 a3.nx, .slice p3 a3.ps.length n3]) := by rw [hw2]; exact F2.out.alloc _
            have FB : Hid (Below w.heap.size w v_49) := by rw [hw2]; exact FB.out.alloc FB.out.size _
            have FR1 : Hid (Blk v_49 r1 [.int .i64 rk, .int .i64 0, .slice s1 rl.length c1]) := by rw [hw2]; exact FR1.out.alloc _
            have FO1 : Hid (OwnE v_49 w.heap.size (.slice s1 rl.length c1) rl) := by rw [hw2]; exact FO1.out.alloc _
            have FR2 : Hid (Blk v_49 r2 [.int .i64 rk, .int .i64 0, .slice s2 rl.length c2]) := by rw [hw2]; exact FR2.out.alloc _
            have FO2 : Hid (OwnE v_49 w.heap.size (.slice s2 rl.length c2) (markEL 1 rl.length)) := by rw [hw2]; exact FO2.out.alloc _
            have Ga : Hid (Ow v_49 w.heap.size g0 a2.ps.length a2.ps.length a2.ps) := by rw [hw2]; exact Ga.out.alloc _
            have Gb : Hid (Ow v_49 w.heap.size g1 a3.ps.length a3.ps.length a3.ps) := by rw [hw2]; exact Gb.out.alloc _
            have FO3 : Hid (OwnE v_49 w.heap.size (.slice s3 rl.length c3) rl) := by rw [hw2]; exact FO3.out.alloc _
            rw [← hw2, ← hbb]
            clear hbb hw2
            refine hK.out _ _ (by (try dsimp only); first | exact ⟨F0.out, F1.out, F2.out⟩ | go_keep) (fun hHeld => ?_)
            clear hK K
            try simp only [Act.put, List.getElem_toArray, List.getElem_cons_succ, List.getElem_cons_zero, List.setIfInBounds_toArray, List.set_cons_zero, List.set_cons_succ]
            refine wpAnyH_ready (rs := [9]) (by kernel_rfl) (by simp) ?_
            refine (AllReadyH.cons rfl (fun K hK => ?_) AllReadyH.nil)
            have z0_ := FZ.out.c 0 _ rfl
            have z1_ := FZ.out.c 1 _ rfl
            have z2_ := FZ.out.c 2 _ rfl
            have y0_ := FZ.out.f 0 (Nat.le_of_ble_eq_true rfl)
            have y1_ := FZ.out.f 1 (Nat.le_of_ble_eq_true rfl)
            have y2_ := FZ.out.f 2 (Nat.le_of_ble_eq_true rfl)
            go_simp
            obtain ⟨v_50, hw2⟩ : ∃ v_50, v_50 = putB v_49 r3 0 [.int .i64 rk, .int .i64 0, .slice s3 rl.length c3] := ⟨_, rfl⟩
            change K _ (putB v_49 r3 0 [.int .i64 rk, .int .i64 0, .slice s3 rl.length c3])
            rw [← hw2]
            clear z0_ z1_ z2_ y0_ y1_ y2_
            have F0 : Hid (Blk v_50 w.heap.size [.int .i64 a0.fl, .int .i64 a0.gp, .int .i64 a0.ln, .int .i64 a0.rf, .int .i64 a0.sp, .int .i64 a0.pu, .int .i64 a0.br, .int .i64 a0.dr, .int .i64 a0.lv, .int .i64 a0.dO, .int .i64 a0.ld, .int .i64 a0.qu]) := by rw [hw2]; exact Blk.putB_other (by omega) _ _ F0.out
            have F1 : Hid (Blk v_50 (w.heap.size + 1) [.int .i64 a2.nx, .slice p2 a2.ps.length n2]) := by rw [hw2]; exact Blk.putB_other (by omega) _ _ F1.out
            have F2 : Hid (Blk v_50 (w.heap.size + 2) [.int .i64 a3.nx, .slice p3 a3.ps.length n3]) := by rw [hw2]; exact Blk.putB_other (by omega) _ _ F2.out
            have FB : Hid (Below w.heap.size w v_50) := by rw [hw2]; exact below_putB FB.out (by omega) _ _
            have FR1 : Hid (Blk v_50 r1 [.int .i64 rk, .int .i64 0, .slice s1 rl.length c1]) := by rw [hw2]; exact Blk.putB_other (by omega) _ _ FR1.out
            have FO1 : Hid (OwnE v_50 w.heap.size (.slice s1 rl.length c1) rl) := by rw [hw2]; exact OwnE.putB (by intro k hk; have := nr3_oFO1 k hk; omega) _ _ _ FO1.out
            have FR2 : Hid (Blk v_50 r2 [.int .i64 rk, .int .i64 0, .slice s2 rl.length c2]) := by rw [hw2]; exact Blk.putB_other (by omega) _ _ FR2.out
            have FO2 : Hid (OwnE v_50 w.heap.size (.slice s2 rl.length c2) (markEL 1 rl.length)) := by rw [hw2]; exact OwnE.putB (by intro k hk; have := nr3_oFO2 k hk; omega) _ _ _ FO2.out
            have FO3 : Hid (OwnE v_50 w.heap.size (.slice s3 rl.length c3) rl) := by rw [hw2]; exact OwnE.putB (by intro k hk; first | (have := nq3 k hk; omega) | (have := nr3_oFO3 k hk; omega)) _ _ _ FO3.out
            have FZ : Hid (Blk v_50 r3 [.int .i64 rk, .int .i64 0, .slice s3 rl.length c3]) := by rw [hw2]; exact FZ.out.put _ rfl
            clear hw2
            refine hK.out _ _ (by (try dsimp only); first | exact ⟨F0.out, F1.out, F2.out⟩ | go_keep) (fun hHeld => ?_)
            clear hK K
            try simp only [Act.put, List.getElem_toArray, List.getElem_cons_succ, List.getElem_cons_zero, List.setIfInBounds_toArray, List.set_cons_zero, List.set_cons_succ]
            refine wpAnyH_done (by kernel_rfl) ?_ _
            go_wp2_with fail
            go_meet
            case rel => exact ⟨r3, s3, c3, rfl, F0.out, F1.out, F2.out, FB.out, FR1.out, FO1.out, FR2.out, FO2.out, FZ.out, FO3.out⟩
          · go_simp
            obtain ⟨r3, hbb⟩ : ∃ r3, r3 = v_47.heap.size := ⟨_, rfl⟩
            obtain ⟨v_51, hw2⟩ : ∃ v_51, v_51 = v_47.alloc (.cells #[.int .i64 0, .int .i64 0, .slice none 0 0] 30) := ⟨_, rfl⟩
            have nr3_0 := F0.out.lt
            rw [← hbb] at nr3_0
            have nr3_1 := F1.out.lt
            rw [← hbb] at nr3_1
            have nr3_2 := F2.out.lt
            rw [← hbb] at nr3_2
            have nr3_4 := FR1.out.lt
            rw [← hbb] at nr3_4
            have nr3_oFO1 := fun k hk => (FO1.out.lt k hk).2
            rw [← hbb] at nr3_oFO1
            have nr3_6 := FR2.out.lt
            rw [← hbb] at nr3_6
            have nr3_oFO2 := fun k hk => (FO2.out.lt k hk).2
            rw [← hbb] at nr3_oFO2
            have nr3_8 := Ga.out.lt
            rw [← hbb] at nr3_8
            have nr3_9 := Gb.out.lt
            rw [← hbb] at nr3_9
            have FZ : Hid (Blk v_51 r3 [.int .i64 0, .int .i64 0, .slice none 0 0]) := by rw [hw2]; exact Blk.at_ _ _ _ _ hbb
            have F0 : Hid (Blk v_51 w.heap.size [.int .i64 a0.fl, .int .i64 a0.gp, .int .i64 a0.ln, .int .i64 a0.rf, .int .i64 a0.sp, .int .i64 a0.pu, .int .i64 a0.br, .int .i64 a0.dr, .int .i64 a0.lv, .int .i64 a0.dO, .int .i64 a0.ld, .int .i64 a0.qu]) := by rw [hw2]; exact F0.out.alloc _
            have F1 : Hid (Blk v_51 (w.heap.size + 1) [.int .i64 a2.nx, .slice p2 a2.ps.length n2]) := by rw [hw2]; exact F1.out.alloc _
            have F2 : Hid (Blk v_51 (w.heap.size + 2) [.int .i64 a3.nx, .slice p3 a3.ps.length n3]) := by rw [hw2]; exact F2.out.alloc _
            have FB : Hid (Below w.heap.size w v_51) := by rw [hw2]; exact FB.out.alloc FB.out.size _
            have FR1 : Hid (Blk v_51 r1 [.int .i64 rk, .int .i64 0, .slice s1 rl.length c1]) := by rw [hw2]; exact FR1.out.alloc _
            have FO1 : Hid (OwnE v_51 w.heap.size (.slice s1 rl.length c1) rl) := by rw [hw2]; exact FO1.out.alloc _
            have FR2 : Hid (Blk v_51 r2 [.int .i64 rk, .int .i64 0, .slice s2 rl.length c2]) := by rw [hw2]; exact FR2.out.alloc _
            have FO2 : Hid (OwnE v_51 w.heap.size (.slice s2 rl.length c2) (markEL 1 rl.length)) := by rw [hw2]; exact FO2.out.alloc _
            have Ga : Hid (Ow v_51 w.heap.size g0 a2.ps.length a2.ps.length a2.ps) := by rw [hw2]; exact Ga.out.alloc _
            have Gb : Hid (Ow v_51 w.heap.size g1 a3.ps.length a3.ps.length a3.ps) := by rw [hw2]; exact Gb.out.alloc _
            rw [← hw2, ← hbb]
            clear hbb hw2
            refine hK.out _ _ (by (try dsimp only); first | exact ⟨F0.out, F1.out, F2.out⟩ | go_keep) (fun hHeld => ?_)
            clear hK K
            try simp only [Act.put, List.getElem_toArray, List.getElem_cons_succ, List.getElem_cons_zero, List.setIfInBounds_toArray, List.set_cons_zero, List.set_cons_succ]
            refine wpAnyH_ready (rs := [7]) (by kernel_rfl) (by simp) ?_
            refine (AllReadyH.cons rfl (fun K hK => ?_) AllReadyH.nil)
            go_simp
            refine (CI w.heap.size g0 g1 _ Ga.out Gb.out).mono ?_
            rintro e v_52 ⟨s3, c3, rfl, ho, hb⟩
            first | (have nq3 : ∀ k, (Value.slice s3 rl.length c3).ownBlock = some k → r3 < k := fun k hk => Nat.lt_of_lt_of_le FZ.out.lt (ho.lt k hk).1) | skip
            have FO3 : Hid (OwnE v_52 w.heap.size (.slice s3 rl.length c3) rl) := ho.base FB.out.size
            have F0 : Hid (Blk v_52 w.heap.size [.int .i64 a0.fl, .int .i64 a0.gp, .int .i64 a0.ln, .int .i64 a0.rf, .int .i64 a0.sp, .int .i64 a0.pu, .int .i64 a0.br, .int .i64 a0.dr, .int .i64 a0.lv, .int .i64 a0.dO, .int .i64 a0.ld, .int .i64 a0.qu]) := F0.out.below hb F0.out.lt
            have F1 : Hid (Blk v_52 (w.heap.size + 1) [.int .i64 a2.nx, .slice p2 a2.ps.length n2]) := F1.out.below hb F1.out.lt
            have F2 : Hid (Blk v_52 (w.heap.size + 2) [.int .i64 a3.nx, .slice p3 a3.ps.length n3]) := F2.out.below hb F2.out.lt
            have FB : Hid (Below w.heap.size w v_52) := FB.out.trans (hb.mono FB.out.size)
            have FR1 : Hid (Blk v_52 r1 [.int .i64 rk, .int .i64 0, .slice s1 rl.length c1]) := FR1.out.below hb FR1.out.lt
            have FO1 : Hid (OwnE v_52 w.heap.size (.slice s1 rl.length c1) rl) := FO1.out.below hb (fun k hk => (FO1.out.lt k hk).2)
            have FR2 : Hid (Blk v_52 r2 [.int .i64 rk, .int .i64 0, .slice s2 rl.length c2]) := FR2.out.below hb FR2.out.lt
            have FO2 : Hid (OwnE v_52 w.heap.size (.slice s2 rl.length c2) (markEL 1 rl.length)) := FO2.out.below hb (fun k hk => (FO2.out.lt k hk).2)
            have Ga : Hid (Ow v_52 w.heap.size g0 a2.ps.length a2.ps.length a2.ps) := Ga.out.below hb Ga.out.lt
            have Gb : Hid (Ow v_52 w.heap.size g1 a3.ps.length a3.ps.length a3.ps) := Gb.out.below hb Gb.out.lt
            have FZ : Hid (Blk v_52 r3 [.int .i64 0, .int .i64 0, .slice none 0 0]) := FZ.out.below hb FZ.out.lt
            clear hb
            clear ho
            try dsimp only
            refine hK.out _ _ (by (try dsimp only); first | exact ⟨F0.out, F1.out, F2.out⟩ | go_keep) (fun hHeld => ?_)
            clear hK K
            try simp only [Act.put, List.getElem_toArray, List.getElem_cons_succ, List.getElem_cons_zero, List.setIfInBounds_toArray, List.set_cons_zero, List.set_cons_succ]
            refine wpAnyH_ready (rs := [9]) (by kernel_rfl) (by simp) ?_
            refine (AllReadyH.cons rfl (fun K hK => ?_) AllReadyH.nil)
            have z0_ := FZ.out.c 0 _ rfl
            have z1_ := FZ.out.c 1 _ rfl
            have z2_ := FZ.out.c 2 _ rfl
            have y0_ := FZ.out.f 0 (Nat.le_of_ble_eq_true rfl)
            have y1_ := FZ.out.f 1 (Nat.le_of_ble_eq_true rfl)
            have y2_ := FZ.out.f 2 (Nat.le_of_ble_eq_true rfl)
            go_simp
            obtain ⟨v_53, hw2⟩ : ∃ v_53, v_53 = putB v_52 r3 0 [.int .i64 rk, .int .i64 0, .slice s3 rl.length c3] := ⟨_, rfl⟩
            change K _ (putB v_52 r3 0 [.int .i64 rk, .int .i64 0, .slice s3 rl.length c3])
            rw [← hw2]
            clear z0_ z1_ z2_ y0_ y1_ y2_
            have F0 : Hid (Blk v_53 w.heap.size [.int .i64 a0.fl, .int .i64 a0.gp, .int .i64 a0.ln, .int .i64 a0.rf, .int .i64 a0.sp, .int .i64 a0.pu, .int .i64 a0.br, .int .i64 a0.dr, .int .i64 a0.lv, .int .i64 a0.dO, .int .i64 a0.ld, .int .i64 a0.qu]) := by rw [hw2]; exact Blk.putB_other (by omega) _ _ F0.out
            have F1 : Hid (Blk v_53 (w.heap.size + 1) [.int .i64 a2.nx, .slice p2 a2.ps.length n2]) := by rw [hw2]; exact Blk.putB_other (by omega) _ _ F1.out
            have F2 : Hid (Blk v_53 (w.heap.size + 2) [.int .i64 a3.nx, .slice p3 a3.ps.length n3]) := by rw [hw2]; exact Blk.putB_other (by omega) _ _ F2.out
            have FB : Hid (Below w.heap.size w v_53) := by rw [hw2]; exact below_putB FB.out (by omega) _ _
            have FR1 : Hid (Blk v_53 r1 [.int .i64 rk, .int .i64 0, .slice s1 rl.length c1]) := by rw [hw2]; exact Blk.putB_other (by omega) _ _ FR1.out
            have FO1 : Hid (OwnE v_53 w.heap.size (.slice s1 rl.length c1) rl) := by rw [hw2]; exact OwnE.putB (by intro k hk; have := nr3_oFO1 k hk; omega) _ _ _ FO1.out
            have FR2 : Hid (Blk v_53 r2 [.int .i64 rk, .int .i64 0, .slice s2 rl.length c2]) := by rw [hw2]; exact Blk.putB_other (by omega) _ _ FR2.out
            have FO2 : Hid (OwnE v_53 w.heap.size (.slice s2 rl.length c2) (markEL 1 rl.length)) := by rw [hw2]; exact OwnE.putB (by intro k hk; have := nr3_oFO2 k hk; omega) _ _ _ FO2.out
            have FZ : Hid (Blk v_53 r3 [.int .i64 rk, .int .i64 0, .slice s3 rl.length c3]) := by rw [hw2]; exact FZ.out.put _ rfl
            have FO3 : Hid (OwnE v_53 w.heap.size (.slice s3 rl.length c3) rl) := by rw [hw2]; exact OwnE.putB (by intro k hk; first | (have := nq3 k hk; omega) | (have := nr3_oFO3 k hk; omega)) _ _ _ FO3.out
            clear hw2
            refine hK.out _ _ (by (try dsimp only); first | exact ⟨F0.out, F1.out, F2.out⟩ | go_keep) (fun hHeld => ?_)
            clear hK K
            try simp only [Act.put, List.getElem_toArray, List.getElem_cons_succ, List.getElem_cons_zero, List.setIfInBounds_toArray, List.set_cons_zero, List.set_cons_succ]
            refine wpAnyH_done (by kernel_rfl) ?_ _
            go_wp2_with fail
            go_meet
            case rel => exact ⟨r3, s3, c3, rfl, F0.out, F1.out, F2.out, FB.out, FR1.out, FO1.out, FR2.out, FO2.out, FZ.out, FO3.out⟩
        · go_simp
          obtain ⟨r3, hbb⟩ : ∃ r3, r3 = v_46.heap.size := ⟨_, rfl⟩
          obtain ⟨v_54, hw2⟩ : ∃ v_54, v_54 = v_46.alloc (.cells #[.int .i64 0, .int .i64 0, .slice none 0 0] 30) := ⟨_, rfl⟩
          have nr3_0 := F0.out.lt
          rw [← hbb] at nr3_0
          have nr3_1 := F1.out.lt
          rw [← hbb] at nr3_1
          have nr3_2 := F2.out.lt
          rw [← hbb] at nr3_2
          have nr3_4 := FR1.out.lt
          rw [← hbb] at nr3_4
          have nr3_oFO1 := fun k hk => (FO1.out.lt k hk).2
          rw [← hbb] at nr3_oFO1
          have nr3_6 := FR2.out.lt
          rw [← hbb] at nr3_6
          have nr3_oFO2 := fun k hk => (FO2.out.lt k hk).2
          rw [← hbb] at nr3_oFO2
          have nr3_8 := Ga.out.lt
          rw [← hbb] at nr3_8
          have FZ : Hid (Blk v_54 r3 [.int .i64 0, .int .i64 0, .slice none 0 0]) := by rw [hw2]; exact Blk.at_ _ _ _ _ hbb
          have F0 : Hid (Blk v_54 w.heap.size [.int .i64 a0.fl, .int .i64 a0.gp, .int .i64 a0.ln, .int .i64 a0.rf, .int .i64 a0.sp, .int .i64 a0.pu, .int .i64 a0.br, .int .i64 a0.dr, .int .i64 a0.lv, .int .i64 a0.dO, .int .i64 a0.ld, .int .i64 a0.qu]) := by rw [hw2]; exact F0.out.alloc _
          have F1 : Hid (Blk v_54 (w.heap.size + 1) [.int .i64 a2.nx, .slice p2 a2.ps.length n2]) := by rw [hw2]; exact F1.out.alloc _
          have F2 : Hid (Blk v_54 (w.heap.size + 2) [.int .i64 a3.nx, .slice p3 a3.ps.length n3]) := by rw [hw2]; exact F2.out.alloc _
          have FB : Hid (Below w.heap.size w v_54) := by rw [hw2]; exact FB.out.alloc FB.out.size _
          have FR1 : Hid (Blk v_54 r1 [.int .i64 rk, .int .i64 0, .slice s1 rl.length c1]) := by rw [hw2]; exact FR1.out.alloc _
          have FO1 : Hid (OwnE v_54 w.heap.size (.slice s1 rl.length c1) rl) := by rw [hw2]; exact FO1.out.alloc _
          have FR2 : Hid (Blk v_54 r2 [.int .i64 rk, .int .i64 0, .slice s2 rl.length c2]) := by rw [hw2]; exact FR2.out.alloc _
          have FO2 : Hid (OwnE v_54 w.heap.size (.slice s2 rl.length c2) (markEL 1 rl.length)) := by rw [hw2]; exact FO2.out.alloc _
          have Ga : Hid (Ow v_54 w.heap.size g0 a2.ps.length a2.ps.length a2.ps) := by rw [hw2]; exact Ga.out.alloc _
          rw [← hw2, ← hbb]
          clear hbb hw2
          refine hK.out _ _ (by (try dsimp only); first | exact ⟨F0.out, F1.out, F2.out⟩ | go_keep) (fun hHeld => ?_)
          clear hK K
          try simp only [Act.put, List.getElem_toArray, List.getElem_cons_succ, List.getElem_cons_zero, List.setIfInBounds_toArray, List.set_cons_zero, List.set_cons_succ]
          refine wpAnyH_ready (rs := [6]) (by kernel_rfl) (by simp) ?_
          refine (AllReadyH.cons rfl (fun K hK => ?_) AllReadyH.nil)
          go_simp
          refine (toLedger_any a3.nx p3 n3 a3.ps hl3 _ ((HP3.out.below FB.out (Nat.le_refl _)).mono FB.out.size)).mono ?_
          rintro e v_55 ⟨g1, rfl, ho, hb⟩
          have Gb : Hid (Ow v_55 w.heap.size g1 a3.ps.length a3.ps.length a3.ps) := ho.base FB.out.size
          have F0 : Hid (Blk v_55 w.heap.size [.int .i64 a0.fl, .int .i64 a0.gp, .int .i64 a0.ln, .int .i64 a0.rf, .int .i64 a0.sp, .int .i64 a0.pu, .int .i64 a0.br, .int .i64 a0.dr, .int .i64 a0.lv, .int .i64 a0.dO, .int .i64 a0.ld, .int .i64 a0.qu]) := F0.out.below hb F0.out.lt
          have F1 : Hid (Blk v_55 (w.heap.size + 1) [.int .i64 a2.nx, .slice p2 a2.ps.length n2]) := F1.out.below hb F1.out.lt
          have F2 : Hid (Blk v_55 (w.heap.size + 2) [.int .i64 a3.nx, .slice p3 a3.ps.length n3]) := F2.out.below hb F2.out.lt
          have FB : Hid (Below w.heap.size w v_55) := FB.out.trans (hb.mono FB.out.size)
          have FR1 : Hid (Blk v_55 r1 [.int .i64 rk, .int .i64 0, .slice s1 rl.length c1]) := FR1.out.below hb FR1.out.lt
          have FO1 : Hid (OwnE v_55 w.heap.size (.slice s1 rl.length c1) rl) := FO1.out.below hb (fun k hk => (FO1.out.lt k hk).2)
          have FR2 : Hid (Blk v_55 r2 [.int .i64 rk, .int .i64 0, .slice s2 rl.length c2]) := FR2.out.below hb FR2.out.lt
          have FO2 : Hid (OwnE v_55 w.heap.size (.slice s2 rl.length c2) (markEL 1 rl.length)) := FO2.out.below hb (fun k hk => (FO2.out.lt k hk).2)
          have Ga : Hid (Ow v_55 w.heap.size g0 a2.ps.length a2.ps.length a2.ps) := Ga.out.below hb Ga.out.lt
          have FZ : Hid (Blk v_55 r3 [.int .i64 0, .int .i64 0, .slice none 0 0]) := FZ.out.below hb FZ.out.lt
          clear hb
          clear ho
          try dsimp only
          refine hK.out _ _ (by (try dsimp only); first | exact ⟨F0.out, F1.out, F2.out⟩ | go_keep) (fun hHeld => ?_)
          clear hK K
          try simp only [Act.put, List.getElem_toArray, List.getElem_cons_succ, List.getElem_cons_zero, List.setIfInBounds_toArray, List.set_cons_zero, List.set_cons_succ]
          refine wpAnyH_ready (rs := [7]) (by kernel_rfl) (by simp) ?_
          refine (AllReadyH.cons rfl (fun K hK => ?_) AllReadyH.nil)
          go_simp
          refine (CI w.heap.size g0 g1 _ Ga.out Gb.out).mono ?_
          rintro e v_56 ⟨s3, c3, rfl, ho, hb⟩
          first | (have nq3 : ∀ k, (Value.slice s3 rl.length c3).ownBlock = some k → r3 < k := fun k hk => Nat.lt_of_lt_of_le FZ.out.lt (ho.lt k hk).1) | skip
          have FO3 : Hid (OwnE v_56 w.heap.size (.slice s3 rl.length c3) rl) := ho.base FB.out.size
          have F0 : Hid (Blk v_56 w.heap.size [.int .i64 a0.fl, .int .i64 a0.gp, .int .i64 a0.ln, .int .i64 a0.rf, .int .i64 a0.sp, .int .i64 a0.pu, .int .i64 a0.br, .int .i64 a0.dr, .int .i64 a0.lv, .int .i64 a0.dO, .int .i64 a0.ld, .int .i64 a0.qu]) := F0.out.below hb F0.out.lt
          have F1 : Hid (Blk v_56 (w.heap.size + 1) [.int .i64 a2.nx, .slice p2 a2.ps.length n2]) := F1.out.below hb F1.out.lt
          have F2 : Hid (Blk v_56 (w.heap.size + 2) [.int .i64 a3.nx, .slice p3 a3.ps.length n3]) := F2.out.below hb F2.out.lt
          have FB : Hid (Below w.heap.size w v_56) := FB.out.trans (hb.mono FB.out.size)
          have FR1 : Hid (Blk v_56 r1 [.int .i64 rk, .int .i64 0, .slice s1 rl.length c1]) := FR1.out.below hb FR1.out.lt
          have FO1 : Hid (OwnE v_56 w.heap.size (.slice s1 rl.length c1) rl) := FO1.out.below hb (fun k hk => (FO1.out.lt k hk).2)
          have FR2 : Hid (Blk v_56 r2 [.int .i64 rk, .int .i64 0, .slice s2 rl.length c2]) := FR2.out.below hb FR2.out.lt
          have FO2 : Hid (OwnE v_56 w.heap.size (.slice s2 rl.length c2) (markEL 1 rl.length)) := FO2.out.below hb (fun k hk => (FO2.out.lt k hk).2)
          have Ga : Hid (Ow v_56 w.heap.size g0 a2.ps.length a2.ps.length a2.ps) := Ga.out.below hb Ga.out.lt
          have FZ : Hid (Blk v_56 r3 [.int .i64 0, .int .i64 0, .slice none 0 0]) := FZ.out.below hb FZ.out.lt
          have Gb : Hid (Ow v_56 w.heap.size g1 a3.ps.length a3.ps.length a3.ps) := Gb.out.below hb Gb.out.lt
          clear hb
          clear ho
          try dsimp only
          refine hK.out _ _ (by (try dsimp only); first | exact ⟨F0.out, F1.out, F2.out⟩ | go_keep) (fun hHeld => ?_)
          clear hK K
          try simp only [Act.put, List.getElem_toArray, List.getElem_cons_succ, List.getElem_cons_zero, List.setIfInBounds_toArray, List.set_cons_zero, List.set_cons_succ]
          refine wpAnyH_ready (rs := [9]) (by kernel_rfl) (by simp) ?_
          refine (AllReadyH.cons rfl (fun K hK => ?_) AllReadyH.nil)
          have z0_ := FZ.out.c 0 _ rfl
          have z1_ := FZ.out.c 1 _ rfl
          have z2_ := FZ.out.c 2 _ rfl
          have y0_ := FZ.out.f 0 (Nat.le_of_ble_eq_true rfl)
          have y1_ := FZ.out.f 1 (Nat.le_of_ble_eq_true rfl)
          have y2_ := FZ.out.f 2 (Nat.le_of_ble_eq_true rfl)
          go_simp
          obtain ⟨v_57, hw2⟩ : ∃ v_57, v_57 = putB v_56 r3 0 [.int .i64 rk, .int .i64 0, .slice s3 rl.length c3] := ⟨_, rfl⟩
          change K _ (putB v_56 r3 0 [.int .i64 rk, .int .i64 0, .slice s3 rl.length c3])
          rw [← hw2]
          clear z0_ z1_ z2_ y0_ y1_ y2_
          have F0 : Hid (Blk v_57 w.heap.size [.int .i64 a0.fl, .int .i64 a0.gp, .int .i64 a0.ln, .int .i64 a0.rf, .int .i64 a0.sp, .int .i64 a0.pu, .int .i64 a0.br, .int .i64 a0.dr, .int .i64 a0.lv, .int .i64 a0.dO, .int .i64 a0.ld, .int .i64 a0.qu]) := by rw [hw2]; exact Blk.putB_other (by omega) _ _ F0.out
          have F1 : Hid (Blk v_57 (w.heap.size + 1) [.int .i64 a2.nx, .slice p2 a2.ps.length n2]) := by rw [hw2]; exact Blk.putB_other (by omega) _ _ F1.out
          have F2 : Hid (Blk v_57 (w.heap.size + 2) [.int .i64 a3.nx, .slice p3 a3.ps.length n3]) := by rw [hw2]; exact Blk.putB_other (by omega) _ _ F2.out
          have FB : Hid (Below w.heap.size w v_57) := by rw [hw2]; exact below_putB FB.out (by omega) _ _
          have FR1 : Hid (Blk v_57 r1 [.int .i64 rk, .int .i64 0, .slice s1 rl.length c1]) := by rw [hw2]; exact Blk.putB_other (by omega) _ _ FR1.out
          have FO1 : Hid (OwnE v_57 w.heap.size (.slice s1 rl.length c1) rl) := by rw [hw2]; exact OwnE.putB (by intro k hk; have := nr3_oFO1 k hk; omega) _ _ _ FO1.out
          have FR2 : Hid (Blk v_57 r2 [.int .i64 rk, .int .i64 0, .slice s2 rl.length c2]) := by rw [hw2]; exact Blk.putB_other (by omega) _ _ FR2.out
          have FO2 : Hid (OwnE v_57 w.heap.size (.slice s2 rl.length c2) (markEL 1 rl.length)) := by rw [hw2]; exact OwnE.putB (by intro k hk; have := nr3_oFO2 k hk; omega) _ _ _ FO2.out
          have FZ : Hid (Blk v_57 r3 [.int .i64 rk, .int .i64 0, .slice s3 rl.length c3]) := by rw [hw2]; exact FZ.out.put _ rfl
          have FO3 : Hid (OwnE v_57 w.heap.size (.slice s3 rl.length c3) rl) := by rw [hw2]; exact OwnE.putB (by intro k hk; first | (have := nq3 k hk; omega) | (have := nr3_oFO3 k hk; omega)) _ _ _ FO3.out
          clear hw2
          refine hK.out _ _ (by (try dsimp only); first | exact ⟨F0.out, F1.out, F2.out⟩ | go_keep) (fun hHeld => ?_)
          clear hK K
          try simp only [Act.put, List.getElem_toArray, List.getElem_cons_succ, List.getElem_cons_zero, List.setIfInBounds_toArray, List.set_cons_zero, List.set_cons_succ]
          refine wpAnyH_done (by kernel_rfl) ?_ _
          go_wp2_with fail
          go_meet
          case rel => exact ⟨r3, s3, c3, rfl, F0.out, F1.out, F2.out, FB.out, FR1.out, FO1.out, FR2.out, FO2.out, FZ.out, FO3.out⟩
      · go_simp
        obtain ⟨r3, hbb⟩ : ∃ r3, r3 = v_45.heap.size := ⟨_, rfl⟩
        obtain ⟨v_58, hw2⟩ : ∃ v_58, v_58 = v_45.alloc (.cells #[.int .i64 0, .int .i64 0, .slice none 0 0] 30) := ⟨_, rfl⟩
        have nr3_0 := F0.out.lt
        rw [← hbb] at nr3_0
        have nr3_1 := F1.out.lt
        rw [← hbb] at nr3_1
        have nr3_2 := F2.out.lt
        rw [← hbb] at nr3_2
        have nr3_4 := FR1.out.lt
        rw [← hbb] at nr3_4
        have nr3_oFO1 := fun k hk => (FO1.out.lt k hk).2
        rw [← hbb] at nr3_oFO1
        have nr3_6 := FR2.out.lt
        rw [← hbb] at nr3_6
        have nr3_oFO2 := fun k hk => (FO2.out.lt k hk).2
        rw [← hbb] at nr3_oFO2
        have FZ : Hid (Blk v_58 r3 [.int .i64 0, .int .i64 0, .slice none 0 0]) := by rw [hw2]; exact Blk.at_ _ _ _ _ hbb
        have F0 : Hid (Blk v_58 w.heap.size [.int .i64 a0.fl, .int .i64 a0.gp, .int .i64 a0.ln, .int .i64 a0.rf, .int .i64 a0.sp, .int .i64 a0.pu, .int .i64 a0.br, .int .i64 a0.dr, .int .i64 a0.lv, .int .i64 a0.dO, .int .i64 a0.ld, .int .i64 a0.qu]) := by rw [hw2]; exact F0.out.alloc _
        have F1 : Hid (Blk v_58 (w.heap.size + 1) [.int .i64 a2.nx, .slice p2 a2.ps.length n2]) := by rw [hw2]; exact F1.out.alloc _
        have F2 : Hid (Blk v_58 (w.heap.size + 2) [.int .i64 a3.nx, .slice p3 a3.ps.length n3]) := by rw [hw2]; exact F2.out.alloc _
        have FB : Hid (Below w.heap.size w v_58) := by rw [hw2]; exact FB.out.alloc FB.out.size _
        have FR1 : Hid (Blk v_58 r1 [.int .i64 rk, .int .i64 0, .slice s1 rl.length c1]) := by rw [hw2]; exact FR1.out.alloc _
        have FO1 : Hid (OwnE v_58 w.heap.size (.slice s1 rl.length c1) rl) := by rw [hw2]; exact FO1.out.alloc _
        have FR2 : Hid (Blk v_58 r2 [.int .i64 rk, .int .i64 0, .slice s2 rl.length c2]) := by rw [hw2]; exact FR2.out.alloc _
        have FO2 : Hid (OwnE v_58 w.heap.size (.slice s2 rl.length c2) (markEL 1 rl.length)) := by rw [hw2]; exact FO2.out.alloc _
        rw [← hw2, ← hbb]
        clear hbb hw2
        refine hK.out _ _ (by (try dsimp only); first | exact ⟨F0.out, F1.out, F2.out⟩ | go_keep) (fun hHeld => ?_)
        clear hK K
        try simp only [Act.put, List.getElem_toArray, List.getElem_cons_succ, List.getElem_cons_zero, List.setIfInBounds_toArray, List.set_cons_zero, List.set_cons_succ]
        refine wpAnyH_ready (rs := [4]) (by kernel_rfl) (by simp) ?_
        refine (AllReadyH.cons rfl (fun K hK => ?_) AllReadyH.nil)
        go_simp
        refine (toLedger_any a2.nx p2 n2 a2.ps hl2 _ ((HP2.out.below FB.out (Nat.le_refl _)).mono FB.out.size)).mono ?_
        rintro e v_59 ⟨g0, rfl, ho, hb⟩
        have Ga : Hid (Ow v_59 w.heap.size g0 a2.ps.length a2.ps.length a2.ps) := ho.base FB.out.size
        have F0 : Hid (Blk v_59 w.heap.size [.int .i64 a0.fl, .int .i64 a0.gp, .int .i64 a0.ln, .int .i64 a0.rf, .int .i64 a0.sp, .int .i64 a0.pu, .int .i64 a0.br, .int .i64 a0.dr, .int .i64 a0.lv, .int .i64 a0.dO, .int .i64 a0.ld, .int .i64 a0.qu]) := F0.out.below hb F0.out.lt
        have F1 : Hid (Blk v_59 (w.heap.size + 1) [.int .i64 a2.nx, .slice p2 a2.ps.length n2]) := F1.out.below hb F1.out.lt
        have F2 : Hid (Blk v_59 (w.heap.size + 2) [.int .i64 a3.nx, .slice p3 a3.ps.length n3]) := F2.out.below hb F2.out.lt
        have FB : Hid (Below w.heap.size w v_59) := FB.out.trans (hb.mono FB.out.size)
        have FR1 : Hid (Blk v_59 r1 [.int .i64 rk, .int .i64 0, .slice s1 rl.length c1]) := FR1.out.below hb FR1.out.lt
        have FO1 : Hid (OwnE v_59 w.heap.size (.slice s1 rl.length c1) rl) := FO1.out.below hb (fun k hk => (FO1.out.lt k hk).2)
        have FR2 : Hid (Blk v_59 r2 [.int .i64 rk, .int .i64 0, .slice s2 rl.length c2]) := FR2.out.below hb FR2.out.lt
        have FO2 : Hid (OwnE v_59 w.heap.size (.slice s2 rl.length c2) (markEL 1 rl.length)) := FO2.out.below hb (fun k hk => (FO2.out.lt k hk).2)
        have FZ : Hid (Blk v_59 r3 [.int .i64 0, .int .i64 0, .slice none 0 0]) := FZ.out.below hb FZ.out.lt
        clear hb
        clear ho
        try dsimp only
        refine hK.out _ _ (by (try dsimp only); first | exact ⟨F0.out, F1.out, F2.out⟩ | go_keep) (fun hHeld => ?_)
        clear hK K
        try simp only [Act.put, List.getElem_toArray, List.getElem_cons_succ, List.getElem_cons_zero, List.setIfInBounds_toArray, List.set_cons_zero, List.set_cons_succ]
        refine wpAnyH_ready (rs := [6]) (by kernel_rfl) (by simp) ?_
        refine (AllReadyH.cons rfl (fun K hK => ?_) AllReadyH.nil)
        go_simp
        refine (toLedger_any a3.nx p3 n3 a3.ps hl3 _ ((HP3.out.below FB.out (Nat.le_refl _)).mono FB.out.size)).mono ?_
        rintro e v_60 ⟨g1, rfl, ho, hb⟩
        have Gb : Hid (Ow v_60 w.heap.size g1 a3.ps.length a3.ps.length a3.ps) := ho.base FB.out.size
        have F0 : Hid (Blk v_60 w.heap.size [.int .i64 a0.fl, .int .i64 a0.gp, .int .i64 a0.ln, .int .i64 a0.rf, .int .i64 a0.sp, .int .i64 a0.pu, .int .i64 a0.br, .int .i64 a0.dr, .int .i64 a0.lv, .int .i64 a0.dO, .int .i64 a0.ld, .int .i64 a0.qu]) := F0.out.below hb F0.out.lt
        have F1 : Hid (Blk v_60 (w.heap.size + 1) [.int .i64 a2.nx, .slice p2 a2.ps.length n2]) := F1.out.below hb F1.out.lt
        have F2 : Hid (Blk v_60 (w.heap.size + 2) [.int .i64 a3.nx, .slice p3 a3.ps.length n3]) := F2.out.below hb F2.out.lt
        have FB : Hid (Below w.heap.size w v_60) := FB.out.trans (hb.mono FB.out.size)
        have FR1 : Hid (Blk v_60 r1 [.int .i64 rk, .int .i64 0, .slice s1 rl.length c1]) := FR1.out.below hb FR1.out.lt
        have FO1 : Hid (OwnE v_60 w.heap.size (.slice s1 rl.length c1) rl) := FO1.out.below hb (fun k hk => (FO1.out.lt k hk).2)
        have FR2 : Hid (Blk v_60 r2 [.int .i64 rk, .int .i64 0, .slice s2 rl.length c2]) := FR2.out.below hb FR2.out.lt
        have FO2 : Hid (OwnE v_60 w.heap.size (.slice s2 rl.length c2) (markEL 1 rl.length)) := FO2.out.below hb (fun k hk => (FO2.out.lt k hk).2)
        have FZ : Hid (Blk v_60 r3 [.int .i64 0, .int .i64 0, .slice none 0 0]) := FZ.out.below hb FZ.out.lt
        have Ga : Hid (Ow v_60 w.heap.size g0 a2.ps.length a2.ps.length a2.ps) := Ga.out.below hb Ga.out.lt
        clear hb
        clear ho
        try dsimp only
        refine hK.out _ _ (by (try dsimp only); first | exact ⟨F0.out, F1.out, F2.out⟩ | go_keep) (fun hHeld => ?_)
        clear hK K
        try simp only [Act.put, List.getElem_toArray, List.getElem_cons_succ, List.getElem_cons_zero, List.setIfInBounds_toArray, List.set_cons_zero, List.set_cons_succ]
        refine wpAnyH_ready (rs := [7]) (by kernel_rfl) (by simp) ?_
        refine (AllReadyH.cons rfl (fun K hK => ?_) AllReadyH.nil)
        go_simp
        refine (CI w.heap.size g0 g1 _ Ga.out Gb.out).mono ?_
        rintro e v_61 ⟨s3, c3, rfl, ho, hb⟩
        first | (have nq3 : ∀ k, (Value.slice s3 rl.length c3).ownBlock = some k → r3 < k := fun k hk => Nat.lt_of_lt_of_le FZ.out.lt (ho.lt k hk).1) | skip
        have FO3 : Hid (OwnE v_61 w.heap.size (.slice s3 rl.length c3) rl) := ho.base FB.out.size
        have F0 : Hid (Blk v_61 w.heap.size [.int .i64 a0.fl, .int .i64 a0.gp, .int .i64 a0.ln, .int .i64 a0.rf, .int .i64 a0.sp, .int .i64 a0.pu, .int .i64 a0.br, .int .i64 a0.dr, .int .i64 a0.lv, .int .i64 a0.dO, .int .i64 a0.ld, .int .i64 a0.qu]) := F0.out.below hb F0.out.lt
        have F1 : Hid (Blk v_61 (w.heap.size + 1) [.int .i64 a2.nx, .slice p2 a2.ps.length n2]) := F1.out.below hb F1.out.lt
        have F2 : Hid (Blk v_61 (w.heap.size + 2) [.int .i64 a3.nx, .slice p3 a3.ps.length n3]) := F2.out.below hb F2.out.lt
        have FB : Hid (Below w.heap.size w v_61) := FB.out.trans (hb.mono FB.out.size)
        have FR1 : Hid (Blk v_61 r1 [.int .i64 rk, .int .i64 0, .slice s1 rl.length c1]) := FR1.out.below hb FR1.out.lt
        have FO1 : Hid (OwnE v_61 w.heap.size (.slice s1 rl.length c1) rl) := FO1.out.below hb (fun k hk => (FO1.out.lt k hk).2)
        have FR2 : Hid (Blk v_61 r2 [.int .i64 rk, .int .i64 0, .slice s2 rl.length c2]) := FR2.out.below hb FR2.out.lt
        have FO2 : Hid (OwnE v_61 w.heap.size (.slice s2 rl.length c2) (markEL 1 rl.length)) := FO2.out.below hb (fun k hk => (FO2.out.lt k hk).2)
        have FZ : Hid (Blk v_61 r3 [.int .i64 0, .int .i64 0, .slice none 0 0]) := FZ.out.below hb FZ.out.lt
        have Ga : Hid (Ow v_61 w.heap.size g0 a2.ps.length a2.ps.length a2.ps) := Ga.out.below hb Ga.out.lt
        have Gb : Hid (Ow v_61 w.heap.size g1 a3.ps.length a3.ps.length a3.ps) := Gb.out.below hb Gb.out.lt
        clear hb
        clear ho
        try dsimp only
        refine hK.out _ _ (by (try dsimp only); first | exact ⟨F0.out, F1.out, F2.out⟩ | go_keep) (fun hHeld => ?_)
        clear hK K
        try simp only [Act.put, List.getElem_toArray, List.getElem_cons_succ, List.getElem_cons_zero, List.setIfInBounds_toArray, List.set_cons_zero, List.set_cons_succ]
        refine wpAnyH_ready (rs := [9]) (by kernel_rfl) (by simp) ?_
        refine (AllReadyH.cons rfl (fun K hK => ?_) AllReadyH.nil)
        have z0_ := FZ.out.c 0 _ rfl
        have z1_ := FZ.out.c 1 _ rfl
        have z2_ := FZ.out.c 2 _ rfl
        have y0_ := FZ.out.f 0 (Nat.le_of_ble_eq_true rfl)
        have y1_ := FZ.out.f 1 (Nat.le_of_ble_eq_true rfl)
        have y2_ := FZ.out.f 2 (Nat.le_of_ble_eq_true rfl)
        go_simp
        obtain ⟨v_62, hw2⟩ : ∃ v_62, v_62 = putB v_61 r3 0 [.int .i64 rk, .int .i64 0, .slice s3 rl.length c3] := ⟨_, rfl⟩
        change K _ (putB v_61 r3 0 [.int .i64 rk, .int .i64 0, .slice s3 rl.length c3])
        rw [← hw2]
        clear z0_ z1_ z2_ y0_ y1_ y2_
        have F0 : Hid (Blk v_62 w.heap.size [.int .i64 a0.fl, .int .i64 a0.gp, .int .i64 a0.ln, .int .i64 a0.rf, .int .i64 a0.sp, .int .i64 a0.pu, .int .i64 a0.br, .int .i64 a0.dr, .int .i64 a0.lv, .int .i64 a0.dO, .int .i64 a0.ld, .int .i64 a0.qu]) := by rw [hw2]; exact Blk.putB_other (by omega) _ _ F0.out
        have F1 : Hid (Blk v_62 (w.heap.size + 1) [.int .i64 a2.nx, .slice p2 a2.ps.length n2]) := by rw [hw2]; exact Blk.putB_other (by omega) _ _ F1.out
        have F2 : Hid (Blk v_62 (w.heap.size + 2) [.int .i64 a3.nx, .slice p3 a3.ps.length n3]) := by rw [hw2]; exact Blk.putB_other (by omega) _ _ F2.out
        have FB : Hid (Below w.heap.size w v_62) := by rw [hw2]; exact below_putB FB.out (by omega) _ _
        have FR1 : Hid (Blk v_62 r1 [.int .i64 rk, .int .i64 0, .slice s1 rl.length c1]) := by rw [hw2]; exact Blk.putB_other (by omega) _ _ FR1.out
        have FO1 : Hid (OwnE v_62 w.heap.size (.slice s1 rl.length c1) rl) := by rw [hw2]; exact OwnE.putB (by intro k hk; have := nr3_oFO1 k hk; omega) _ _ _ FO1.out
        have FR2 : Hid (Blk v_62 r2 [.int .i64 rk, .int .i64 0, .slice s2 rl.length c2]) := by rw [hw2]; exact Blk.putB_other (by omega) _ _ FR2.out
        have FO2 : Hid (OwnE v_62 w.heap.size (.slice s2 rl.length c2) (markEL 1 rl.length)) := by rw [hw2]; exact OwnE.putB (by intro k hk; have := nr3_oFO2 k hk; omega) _ _ _ FO2.out
        have FZ : Hid (Blk v_62 r3 [.int .i64 rk, .int .i64 0, .slice s3 rl.length c3]) := by rw [hw2]; exact FZ.out.put _ rfl
        have FO3 : Hid (OwnE v_62 w.heap.size (.slice s3 rl.length c3) rl) := by rw [hw2]; exact OwnE.putB (by intro k hk; first | (have := nq3 k hk; omega) | (have := nr3_oFO3 k hk; omega)) _ _ _ FO3.out
        clear hw2
        refine hK.out _ _ (by (try dsimp only); first | exact ⟨F0.out, F1.out, F2.out⟩ | go_keep) (fun hHeld => ?_)
        clear hK K
        try simp only [Act.put, List.getElem_toArray, List.getElem_cons_succ, List.getElem_cons_zero, List.setIfInBounds_toArray, List.set_cons_zero, List.set_cons_succ]
        refine wpAnyH_done (by kernel_rfl) ?_ _
        go_wp2_with fail
        go_meet
        case rel => exact ⟨r3, s3, c3, rfl, F0.out, F1.out, F2.out, FB.out, FR1.out, FO1.out, FR2.out, FO2.out, FZ.out, FO3.out⟩
    · go_simp
      obtain ⟨r3, hbb⟩ : ∃ r3, r3 = v_44.heap.size := ⟨_, rfl⟩
      obtain ⟨v_63, hw2⟩ : ∃ v_63, v_63 = v_44.alloc (.cells #[.int .i64 0, .int .i64 0, .slice none 0 0] 30) := ⟨_, rfl⟩
      have nr3_0 := F0.out.lt
      rw [← hbb] at nr3_0
      have nr3_1 := F1.out.lt
      rw [← hbb] at nr3_1
      have nr3_2 := F2.out.lt
      rw [← hbb] at nr3_2
      have nr3_4 := FR1.out.lt
      rw [← hbb] at nr3_4
      have nr3_oFO1 := fun k hk => (FO1.out.lt k hk).2
      rw [← hbb] at nr3_oFO1
      have nr3_6 := FR2.out.lt
      rw [← hbb] at nr3_6
      have nr3_oFO2 := fun k hk => (FO2.out.lt k hk).2
      rw [← hbb] at nr3_oFO2
      have FZ : Hid (Blk v_63 r3 [.int .i64 0, .int .i64 0, .slice none 0 0]) := by rw [hw2]; exact Blk.at_ _ _ _ _ hbb
      have F0 : Hid (Blk v_63 w.heap.size [.int .i64 a0.fl, .int .i64 a0.gp, .int .i64 a0.ln, .int .i64 a0.rf, .int .i64 a0.sp, .int .i64 a0.pu, .int .i64 a0.br, .int .i64 a0.dr, .int .i64 a0.lv, .int .i64 a0.dO, .int .i64 a0.ld, .int .i64 a0.qu]) := by rw [hw2]; exact F0.out.alloc _
      have F1 : Hid (Blk v_63 (w.heap.size + 1) [.int .i64 a2.nx, .slice p2 a2.ps.length n2]) := by rw [hw2]; exact F1.out.alloc _
      have F2 : Hid (Blk v_63 (w.heap.size + 2) [.int .i64 a3.nx, .slice p3 a3.ps.length n3]) := by rw [hw2]; exact F2.out.alloc _
      have FB : Hid (Below w.heap.size w v_63) := by rw [hw2]; exact FB.out.alloc FB.out.size _
      have FR1 : Hid (Blk v_63 r1 [.int .i64 rk, .int .i64 0, .slice s1 rl.length c1]) := by rw [hw2]; exact FR1.out.alloc _
      have FO1 : Hid (OwnE v_63 w.heap.size (.slice s1 rl.length c1) rl) := by rw [hw2]; exact FO1.out.alloc _
      have FR2 : Hid (Blk v_63 r2 [.int .i64 rk, .int .i64 0, .slice s2 rl.length c2]) := by rw [hw2]; exact FR2.out.alloc _
      have FO2 : Hid (OwnE v_63 w.heap.size (.slice s2 rl.length c2) (markEL 1 rl.length)) := by rw [hw2]; exact FO2.out.alloc _
      rw [← hw2, ← hbb]
      clear hbb hw2
      refine hK.out _ _ (by (try dsimp only); first | exact ⟨F0.out, F1.out, F2.out⟩ | go_keep) (fun hHeld => ?_)
      clear hK K
      try simp only [Act.put, List.getElem_toArray, List.getElem_cons_succ, List.getElem_cons_zero, List.setIfInBounds_toArray, List.set_cons_zero, List.set_cons_succ]
      refine wpAnyH_ready (rs := [1]) (by kernel_rfl) (by simp) ?_
      refine (AllReadyH.cons rfl (fun K hK => ?_) AllReadyH.nil)
      go_simp
      refine (toHouse_any a0 _).mono ?_
      rintro e v_64 ⟨rfl, hb⟩
      have F0 : Hid (Blk v_64 w.heap.size [.int .i64 a0.fl, .int .i64 a0.gp, .int .i64 a0.ln, .int .i64 a0.rf, .int .i64 a0.sp, .int .i64 a0.pu, .int .i64 a0.br, .int .i64 a0.dr, .int .i64 a0.lv, .int .i64 a0.dO, .int .i64 a0.ld, .int .i64 a0.qu]) := F0.out.below hb F0.out.lt
      have F1 : Hid (Blk v_64 (w.heap.size + 1) [.int .i64 a2.nx, .slice p2 a2.ps.length n2]) := F1.out.below hb F1.out.lt
      have F2 : Hid (Blk v_64 (w.heap.size + 2) [.int .i64 a3.nx, .slice p3 a3.ps.length n3]) := F2.out.below hb F2.out.lt
      have FB : Hid (Below w.heap.size w v_64) := FB.out.trans (hb.mono FB.out.size)
      have FR1 : Hid (Blk v_64 r1 [.int .i64 rk, .int .i64 0, .slice s1 rl.length c1]) := FR1.out.below hb FR1.out.lt
      have FO1 : Hid (OwnE v_64 w.heap.size (.slice s1 rl.length c1) rl) := FO1.out.below hb (fun k hk => (FO1.out.lt k hk).2)
      have FR2 : Hid (Blk v_64 r2 [.int .i64 rk, .int .i64 0, .slice s2 rl.length c2]) := FR2.out.below hb FR2.out.lt
      have FO2 : Hid (OwnE v_64 w.heap.size (.slice s2 rl.length c2) (markEL 1 rl.length)) := FO2.out.below hb (fun k hk => (FO2.out.lt k hk).2)
      have FZ : Hid (Blk v_64 r3 [.int .i64 0, .int .i64 0, .slice none 0 0]) := FZ.out.below hb FZ.out.lt
      clear hb
      try dsimp only
      refine hK.out _ _ (by (try dsimp only); first | exact ⟨F0.out, F1.out, F2.out⟩ | go_keep) (fun hHeld => ?_)
      clear hK K
      try simp only [Act.put, List.getElem_toArray, List.getElem_cons_succ, List.getElem_cons_zero, List.setIfInBounds_toArray, List.set_cons_zero, List.set_cons_succ]
      refine wpAnyH_ready (rs := [4]) (by kernel_rfl) (by simp) ?_
      refine (AllReadyH.cons rfl (fun K hK => ?_) AllReadyH.nil)
      go_simp
      refine (toLedger_any a2.nx p2 n2 a2.ps hl2 _ ((HP2.out.below FB.out (Nat.le_refl _)).mono FB.out.size)).mono ?_
      rintro e v_65 ⟨g0, rfl, ho, hb⟩
      have Ga : Hid (Ow v_65 w.heap.size g0 a2.ps.length a2.ps.length a2.ps) := ho.base FB.out.size
      have F0 : Hid (Blk v_65 w.heap.size [.int .i64 a0.fl, .int .i64 a0.gp, .int .i64 a0.ln, .int .i64 a0.rf, .int .i64 a0.sp, .int .i64 a0.pu, .int .i64 a0.br, .int .i64 a0.dr, .int .i64 a0.lv, .int .i64 a0.dO, .int .i64 a0.ld, .int .i64 a0.qu]) := F0.out.below hb F0.out.lt
      have F1 : Hid (Blk v_65 (w.heap.size + 1) [.int .i64 a2.nx, .slice p2 a2.ps.length n2]) := F1.out.below hb F1.out.lt
      have F2 : Hid (Blk v_65 (w.heap.size + 2) [.int .i64 a3.nx, .slice p3 a3.ps.length n3]) := F2.out.below hb F2.out.lt
      have FB : Hid (Below w.heap.size w v_65) := FB.out.trans (hb.mono FB.out.size)
      have FR1 : Hid (Blk v_65 r1 [.int .i64 rk, .int .i64 0, .slice s1 rl.length c1]) := FR1.out.below hb FR1.out.lt
      have FO1 : Hid (OwnE v_65 w.heap.size (.slice s1 rl.length c1) rl) := FO1.out.below hb (fun k hk => (FO1.out.lt k hk).2)
      have FR2 : Hid (Blk v_65 r2 [.int .i64 rk, .int .i64 0, .slice s2 rl.length c2]) := FR2.out.below hb FR2.out.lt
      have FO2 : Hid (OwnE v_65 w.heap.size (.slice s2 rl.length c2) (markEL 1 rl.length)) := FO2.out.below hb (fun k hk => (FO2.out.lt k hk).2)
      have FZ : Hid (Blk v_65 r3 [.int .i64 0, .int .i64 0, .slice none 0 0]) := FZ.out.below hb FZ.out.lt
      clear hb
      clear ho
      try dsimp only
      refine hK.out _ _ (by (try dsimp only); first | exact ⟨F0.out, F1.out, F2.out⟩ | go_keep) (fun hHeld => ?_)
      clear hK K
      try simp only [Act.put, List.getElem_toArray, List.getElem_cons_succ, List.getElem_cons_zero, List.setIfInBounds_toArray, List.set_cons_zero, List.set_cons_succ]
      refine wpAnyH_ready (rs := [6]) (by kernel_rfl) (by simp) ?_
      refine (AllReadyH.cons rfl (fun K hK => ?_) AllReadyH.nil)
      go_simp
      refine (toLedger_any a3.nx p3 n3 a3.ps hl3 _ ((HP3.out.below FB.out (Nat.le_refl _)).mono FB.out.size)).mono ?_
      rintro e v_66 ⟨g1, rfl, ho, hb⟩
      have Gb : Hid (Ow v_66 w.heap.size g1 a3.ps.length a3.ps.length a3.ps) := ho.base FB.out.size
      have F0 : Hid (Blk v_66 w.heap.size [.int .i64 a0.fl, .int .i64 a0.gp, .int .i64 a0.ln, .int .i64 a0.rf, .int .i64 a0.sp, .int .i64 a0.pu, .int .i64 a0.br, .int .i64 a0.dr, .int .i64 a0.lv, .int .i64 a0.dO, .int .i64 a0.ld, .int .i64 a0.qu]) := F0.out.below hb F0.out.lt
      have F1 : Hid (Blk v_66 (w.heap.size + 1) [.int .i64 a2.nx, .slice p2 a2.ps.length n2]) := F1.out.below hb F1.out.lt
      have F2 : Hid (Blk v_66 (w.heap.size + 2) [.int .i64 a3.nx, .slice p3 a3.ps.length n3]) := F2.out.below hb F2.out.lt
      have FB : Hid (Below w.heap.size w v_66) := FB.out.trans (hb.mono FB.out.size)
      have FR1 : Hid (Blk v_66 r1 [.int .i64 rk, .int .i64 0, .slice s1 rl.length c1]) := FR1.out.below hb FR1.out.lt
      have FO1 : Hid (OwnE v_66 w.heap.size (.slice s1 rl.length c1) rl) := FO1.out.below hb (fun k hk => (FO1.out.lt k hk).2)
      have FR2 : Hid (Blk v_66 r2 [.int .i64 rk, .int .i64 0, .slice s2 rl.length c2]) := FR2.out.below hb FR2.out.lt
      have FO2 : Hid (OwnE v_66 w.heap.size (.slice s2 rl.length c2) (markEL 1 rl.length)) := FO2.out.below hb (fun k hk => (FO2.out.lt k hk).2)
      have FZ : Hid (Blk v_66 r3 [.int .i64 0, .int .i64 0, .slice none 0 0]) := FZ.out.below hb FZ.out.lt
      have Ga : Hid (Ow v_66 w.heap.size g0 a2.ps.length a2.ps.length a2.ps) := Ga.out.below hb Ga.out.lt
      clear hb
      clear ho
      try dsimp only
      refine hK.out _ _ (by (try dsimp only); first | exact ⟨F0.out, F1.out, F2.out⟩ | go_keep) (fun hHeld => ?_)
      clear hK K
      try simp only [Act.put, List.getElem_toArray, List.getElem_cons_succ, List.getElem_cons_zero, List.setIfInBounds_toArray, List.set_cons_zero, List.set_cons_succ]
      refine wpAnyH_ready (rs := [7]) (by kernel_rfl) (by simp) ?_
      refine (AllReadyH.cons rfl (fun K hK => ?_) AllReadyH.nil)
      go_simp
      refine (CI w.heap.size g0 g1 _ Ga.out Gb.out).mono ?_
      rintro e v_67 ⟨s3, c3, rfl, ho, hb⟩
      first | (have nq3 : ∀ k, (Value.slice s3 rl.length c3).ownBlock = some k → r3 < k := fun k hk => Nat.lt_of_lt_of_le FZ.out.lt (ho.lt k hk).1) | skip
      have FO3 : Hid (OwnE v_67 w.heap.size (.slice s3 rl.length c3) rl) := ho.base FB.out.size
      have F0 : Hid (Blk v_67 w.heap.size [.int .i64 a0.fl, .int .i64 a0.gp, .int .i64 a0.ln, .int .i64 a0.rf, .int .i64 a0.sp, .int .i64 a0.pu, .int .i64 a0.br, .int .i64 a0.dr, .int .i64 a0.lv, .int .i64 a0.dO, .int .i64 a0.ld, .int .i64 a0.qu]) := F0.out.below hb F0.out.lt
      have F1 : Hid (Blk v_67 (w.heap.size + 1) [.int .i64 a2.nx, .slice p2 a2.ps.length n2]) := F1.out.below hb F1.out.lt
      have F2 : Hid (Blk v_67 (w.heap.size + 2) [.int .i64 a3.nx, .slice p3 a3.ps.length n3]) := F2.out.below hb F2.out.lt
      have FB : Hid (Below w.heap.size w v_67) := FB.out.trans (hb.mono FB.out.size)
      have FR1 : Hid (Blk v_67 r1 [.int .i64 rk, .int .i64 0, .slice s1 rl.length c1]) := FR1.out.below hb FR1.out.lt
      have FO1 : Hid (OwnE v_67 w.heap.size (.slice s1 rl.length c1) rl) := FO1.out.below hb (fun k hk => (FO1.out.lt k hk).2)
      have FR2 : Hid (Blk v_67 r2 [.int .i64 rk, .int .i64 0, .slice s2 rl.length c2]) := FR2.out.below hb FR2.out.lt
      have FO2 : Hid (OwnE v_67 w.heap.size (.slice s2 rl.length c2) (markEL 1 rl.length)) := FO2.out.below hb (fun k hk => (FO2.out.lt k hk).2)
      have FZ : Hid (Blk v_67 r3 [.int .i64 0, .int .i64 0, .slice none 0 0]) := FZ.out.below hb FZ.out.lt
      have Ga : Hid (Ow v_67 w.heap.size g0 a2.ps.length a2.ps.length a2.ps) := Ga.out.below hb Ga.out.lt
      have Gb : Hid (Ow v_67 w.heap.size g1 a3.ps.length a3.ps.length a3.ps) := Gb.out.below hb Gb.out.lt
      clear hb
      clear ho
      try dsimp only
      refine hK.out _ _ (by (try dsimp only); first | exact ⟨F0.out, F1.out, F2.out⟩ | go_keep) (fun hHeld => ?_)
      clear hK K
      try simp only [Act.put, List.getElem_toArray, List.getElem_cons_succ, List.getElem_cons_zero, List.setIfInBounds_toArray, List.set_cons_zero, List.set_cons_succ]
      refine wpAnyH_ready (rs := [9]) (by kernel_rfl) (by simp) ?_
      refine (AllReadyH.cons rfl (fun K hK => ?_) AllReadyH.nil)
      have z0_ := FZ.out.c 0 _ rfl
      have z1_ := FZ.out.c 1 _ rfl
      have z2_ := FZ.out.c 2 _ rfl
      have y0_ := FZ.out.f 0 (Nat.le_of_ble_eq_true rfl)
      have y1_ := FZ.out.f 1 (Nat.le_of_ble_eq_true rfl)
      have y2_ := FZ.out.f 2 (Nat.le_of_ble_eq_true rfl)
      go_simp
      obtain ⟨v_68, hw2⟩ : ∃ v_68, v_68 = putB v_67 r3 0 [.int .i64 rk, .int .i64 0, .slice s3 rl.length c3] := ⟨_, rfl⟩
      change K _ (putB v_67 r3 0 [.int .i64 rk, .int .i64 0, .slice s3 rl.length c3])
      rw [← hw2]
      clear z0_ z1_ z2_ y0_ y1_ y2_
      have F0 : Hid (Blk v_68 w.heap.size [.int .i64 a0.fl, .int .i64 a0.gp, .int .i64 a0.ln, .int .i64 a0.rf, .int .i64 a0.sp, .int .i64 a0.pu, .int .i64 a0.br, .int .i64 a0.dr, .int .i64 a0.lv, .int .i64 a0.dO, .int .i64 a0.ld, .int .i64 a0.qu]) := by rw [hw2]; exact Blk.putB_other (by omega) _ _ F0.out
      have F1 : Hid (Blk v_68 (w.heap.size + 1) [.int .i64 a2.nx, .slice p2 a2.ps.length n2]) := by rw [hw2]; exact Blk.putB_other (by omega) _ _ F1.out
      have F2 : Hid (Blk v_68 (w.heap.size + 2) [.int .i64 a3.nx, .slice p3 a3.ps.length n3]) := by rw [hw2]; exact Blk.putB_other (by omega) _ _ F2.out
      have FB : Hid (Below w.heap.size w v_68) := by rw [hw2]; exact below_putB FB.out (by omega) _ _
      have FR1 : Hid (Blk v_68 r1 [.int .i64 rk, .int .i64 0, .slice s1 rl.length c1]) := by rw [hw2]; exact Blk.putB_other (by omega) _ _ FR1.out
      have FO1 : Hid (OwnE v_68 w.heap.size (.slice s1 rl.length c1) rl) := by rw [hw2]; exact OwnE.putB (by intro k hk; have := nr3_oFO1 k hk; omega) _ _ _ FO1.out
      have FR2 : Hid (Blk v_68 r2 [.int .i64 rk, .int .i64 0, .slice s2 rl.length c2]) := by rw [hw2]; exact Blk.putB_other (by omega) _ _ FR2.out
      have FO2 : Hid (OwnE v_68 w.heap.size (.slice s2 rl.length c2) (markEL 1 rl.length)) := by rw [hw2]; exact OwnE.putB (by intro k hk; have := nr3_oFO2 k hk; omega) _ _ _ FO2.out
      have FZ : Hid (Blk v_68 r3 [.int .i64 rk, .int .i64 0, .slice s3 rl.length c3]) := by rw [hw2]; exact FZ.out.put _ rfl
      have FO3 : Hid (OwnE v_68 w.heap.size (.slice s3 rl.length c3) rl) := by rw [hw2]; exact OwnE.putB (by intro k hk; first | (have := nq3 k hk; omega) | (have := nr3_oFO3 k hk; omega)) _ _ _ FO3.out
      clear hw2
      refine hK.out _ _ (by (try dsimp only); first | exact ⟨F0.out, F1.out, F2.out⟩ | go_keep) (fun hHeld => ?_)
      clear hK K
      try simp only [Act.put, List.getElem_toArray, List.getElem_cons_succ, List.getElem_cons_zero, List.setIfInBounds_toArray, List.set_cons_zero, List.set_cons_succ]
      refine wpAnyH_done (by kernel_rfl) ?_ _
      go_wp2_with fail
      go_meet
      case rel => exact ⟨r3, s3, c3, rfl, F0.out, F1.out, F2.out, FB.out, FR1.out, FO1.out, FR2.out, FO2.out, FZ.out, FO3.out⟩
  case rest =>
  obtain ⟨r3, s3, c3, rfl, hcut'⟩ := hcut
  obtain ⟨hF0, hF1, hF2, hFB, hFR1, hFO1, hFR2, hFO2, hFR3, hFO3⟩ := hcut'
  have F0 : Hid (Blk wc w.heap.size [.int .i64 a0.fl, .int .i64 a0.gp, .int .i64 a0.ln, .int .i64 a0.rf, .int .i64 a0.sp, .int .i64 a0.pu, .int .i64 a0.br, .int .i64 a0.dr, .int .i64 a0.lv, .int .i64 a0.dO, .int .i64 a0.ld, .int .i64 a0.qu]) := hF0
  have F1 : Hid (Blk wc (w.heap.size + 1) [.int .i64 a2.nx, .slice p2 a2.ps.length n2]) := hF1
  have F2 : Hid (Blk wc (w.heap.size + 2) [.int .i64 a3.nx, .slice p3 a3.ps.length n3]) := hF2
  have FB : Hid (Below w.heap.size w wc) := hFB
  have FR1 : Hid (Blk wc r1 [.int .i64 rk, .int .i64 0, .slice s1 rl.length c1]) := hFR1
  have FO1 : Hid (OwnE wc w.heap.size (.slice s1 rl.length c1) rl) := hFO1
  have FR2 : Hid (Blk wc r2 [.int .i64 rk, .int .i64 0, .slice s2 rl.length c2]) := hFR2
  have FO2 : Hid (OwnE wc w.heap.size (.slice s2 rl.length c2) (markEL 1 rl.length)) := hFO2
  have FR3 : Hid (Blk wc r3 [.int .i64 rk, .int .i64 0, .slice s3 rl.length c3]) := hFR3
  have FO3 : Hid (OwnE wc w.heap.size (.slice s3 rl.length c3) rl) := hFO3
  clear hF0 hF1 hF2 hFB hFR1 hFO1 hFR2 hFO2 hFR3 hFO3
  go_wp2_with (first | (refine load_blk 30 _ Try.underlying30 (by kernel_rfl) FR3.out rfl rfl rfl ?_) | (refine load_blk 30 _ Try.underlying30 (by kernel_rfl) FR1.out rfl rfl rfl ?_) | (refine load_blk 30 _ Try.underlying30 (by kernel_rfl) FR2.out rfl rfl rfl ?_) | (go_at_call 9; refine (eqEventsResult_same rk 0 s3 s1 c3 c1 rl hrl _ FO3.out.einS FO1.out.einS).mono ?_; rintro e w15 ⟨rfl, hb⟩; have F0 : Hid (Blk w15 w.heap.size [.int .i64 a0.fl, .int .i64 a0.gp, .int .i64 a0.ln, .int .i64 a0.rf, .int .i64 a0.sp, .int .i64 a0.pu, .int .i64 a0.br, .int .i64 a0.dr, .int .i64 a0.lv, .int .i64 a0.dO, .int .i64 a0.ld, .int .i64 a0.qu]) := F0.out.below hb F0.out.lt; have F1 : Hid (Blk w15 (w.heap.size + 1) [.int .i64 a2.nx, .slice p2 a2.ps.length n2]) := F1.out.below hb F1.out.lt; have F2 : Hid (Blk w15 (w.heap.size + 2) [.int .i64 a3.nx, .slice p3 a3.ps.length n3]) := F2.out.below hb F2.out.lt; have FB : Hid (Below w.heap.size w w15) := FB.out.trans (hb.mono FB.out.size); have FR1 : Hid (Blk w15 r1 [.int .i64 rk, .int .i64 0, .slice s1 rl.length c1]) := FR1.out.below hb FR1.out.lt; have FO1 : Hid (OwnE w15 w.heap.size (.slice s1 rl.length c1) rl) := FO1.out.below hb (fun k hk => (FO1.out.lt k hk).2); have FR2 : Hid (Blk w15 r2 [.int .i64 rk, .int .i64 0, .slice s2 rl.length c2]) := FR2.out.below hb FR2.out.lt; have FO2 : Hid (OwnE w15 w.heap.size (.slice s2 rl.length c2) (markEL 1 rl.length)) := FO2.out.below hb (fun k hk => (FO2.out.lt k hk).2); clear hb) | (go_at_call 13; refine (heldEventsResult_any w.heap.size rk 0 (.slice s2 rl.length c2) rl.length 1 (by omega) (by omega) hrl _ FO2.out).mono ?_; rintro e w16 ⟨rfl, hb⟩; have F0 : Hid (Blk w16 w.heap.size [.int .i64 a0.fl, .int .i64 a0.gp, .int .i64 a0.ln, .int .i64 a0.rf, .int .i64 a0.sp, .int .i64 a0.pu, .int .i64 a0.br, .int .i64 a0.dr, .int .i64 a0.lv, .int .i64 a0.dO, .int .i64 a0.ld, .int .i64 a0.qu]) := F0.out.below hb F0.out.lt; have F1 : Hid (Blk w16 (w.heap.size + 1) [.int .i64 a2.nx, .slice p2 a2.ps.length n2]) := F1.out.below hb F1.out.lt; have F2 : Hid (Blk w16 (w.heap.size + 2) [.int .i64 a3.nx, .slice p3 a3.ps.length n3]) := F2.out.below hb F2.out.lt; have FB : Hid (Below w.heap.size w w16) := FB.out.trans (hb.mono FB.out.size); have FR1 : Hid (Blk w16 r1 [.int .i64 rk, .int .i64 0, .slice s1 rl.length c1]) := FR1.out.below hb FR1.out.lt; have FO1 : Hid (OwnE w16 w.heap.size (.slice s1 rl.length c1) rl) := FO1.out.below hb (fun k hk => (FO1.out.lt k hk).2); have FR2 : Hid (Blk w16 r2 [.int .i64 rk, .int .i64 0, .slice s2 rl.length c2]) := FR2.out.below hb FR2.out.lt; have FO2 : Hid (OwnE w16 w.heap.size (.slice s2 rl.length c2) (markEL 1 rl.length)) := FO2.out.below hb (fun k hk => (FO2.out.lt k hk).2); clear hb))
  go_ret
  exact ⟨by simp, FB.out⟩

set_option maxRecDepth 100000 in
theorem lifted (os : Os) (started : os.Started) (H : Type) (enc : TypeId × Value → H) :
    ReturnsInHanded {} Try.checked os 3 .any (Rows.fnExactDiffLedgersSpec.pre6 enc Try.prog Try.f3 Rows.fnExactDiffLedgersRow.domain false) (Rows.fnExactDiffLedgersSpec.post enc Try.prog Try.f3 false true false false) := by
  refine returnsInHanded_of_change (C := Try.checked) own started (by kernel_rfl) Try.func3
    (ChangeSpec.witness6 (enc := enc) (C := Try.checked) false ⟨#[], #[.agg #[.int .i64 0, .int .i64 0, .int .i64 0, .int .i64 0, .int .i64 0, .int .i64 0, .int .i64 0, .int .i64 0, .int .i64 0, .int .i64 0, .int .i64 0, .int .i64 0], .int .i64 0, .agg #[.int .i64 0, .slice none 0 0], .agg #[.int .i64 0, .slice none 0 0]], []⟩ 8 (by kernel_rfl) (by kernel_rfl) (by kernel_rfl) (by kernel_rfl)) ?_
  intro W base args ds gs before hval0 hW hcnd _
  have hval : ∀ (j : Nat) t v, Try.f3.params[j]? = some t → args[j]? = some v → Value.okWide Try.prog W .any base t v := hval0
  have hW' := hW
  obtain ⟨p, q, hA0, hV, rfl, hfz, hnd⟩ := hW
  have hA : DataW.TrodAll enc Try.prog W 0 (fun _ => true) true Try.f3.params.toList args.toList ds p := hA0
  rw [Try.params3] at hA hval
  obtain ⟨v0, vs0, d0, ds0, p0, q0, hargs, rfl, rfl, h0, r0⟩ := trodAll_cons hA
  obtain ⟨v1, vs1, d1, ds1, p1, q1, rfl, rfl, rfl, h1, r1⟩ := trodAll_cons r0
  obtain ⟨v2, vs2, d2, ds2, p2, q2, rfl, rfl, rfl, h2, r2⟩ := trodAll_cons r1
  obtain ⟨v3, vs3, d3, ds3, p3, q3, rfl, rfl, rfl, h3, r3⟩ := trodAll_cons r2
  obtain ⟨rfl, rfl, rfl⟩ := trodAll_nil r3
  obtain rfl : args = #[v0, v1, v2, v3] := by cases args; simp_all
  obtain ⟨rfl, rfl⟩ := trodVars_none hV
  have k0 := h0
  have lt0 : ∀ x ∈ p0, x.block < W.heap.size := by obtain ⟨m, hm⟩ := k0; exact DataW.trod_lt m _ _ _ hm
  obtain ⟨xs0, hl0, rfl, w0⟩ := open_i64s Try.underlying23 Try.underlying2 (by kernel_rfl) (by kernel_rfl) (by kernel_rfl) (hval 0 23 v0 rfl rfl) h0
  obtain ⟨x0_0, x0_1, x0_2, x0_3, x0_4, x0_5, x0_6, x0_7, x0_8, x0_9, x0_10, x0_11, rfl⟩ := list12 hl0
  have k1 := h1
  have lt1 : ∀ x ∈ p1, x.block < W.heap.size := by obtain ⟨m, hm⟩ := k1; exact DataW.trod_lt m _ _ _ hm
  obtain ⟨a1, rfl, _, _, w1⟩ := open_int Try.underlying2 (hval 1 2 v1 rfl rfl) h1
  have k2 := h2
  have lt2 : ∀ x ∈ p2, x.block < W.heap.size := by obtain ⟨m, hm⟩ := k2; exact DataW.trod_lt m _ _ _ hm
  obtain ⟨x2, pa2, nc2, rfl, w2, u2, ln2, pin2⟩ := open_led (ts := 24) (te := 66) (k := 2) Try.underlying26 Try.underlying24 Try.underlying66 Try.underlying2 (by kernel_rfl) (by kernel_rfl) (by kernel_rfl) (by kernel_rfl) (by kernel_rfl) rfl rfl rfl rfl rfl rfl (hval 2 26 v2 rfl rfl) h2
  have k3 := h3
  have lt3 : ∀ x ∈ p3, x.block < W.heap.size := by obtain ⟨m, hm⟩ := k3; exact DataW.trod_lt m _ _ _ hm
  obtain ⟨x3, pa3, nc3, rfl, w3, u3, ln3, pin3⟩ := open_led (ts := 24) (te := 66) (k := 2) Try.underlying26 Try.underlying24 Try.underlying66 Try.underlying2 (by kernel_rfl) (by kernel_rfl) (by kernel_rfl) (by kernel_rfl) (by kernel_rfl) rfl rfl rfl rfl rfl rfl (hval 3 26 v3 rfl rfl) h3
  clear hA0 hval0
  refine (walk ⟨x0_0, x0_1, x0_2, x0_3, x0_4, x0_5, x0_6, x0_7, x0_8, x0_9, x0_10, x0_11⟩ a1 x2 x3 w0 w1 pa2 nc2 w2 u2 ln2 pa3 nc3 w3 u3 ln3 W pin2 pin3).mono fun e W' ⟨he, bel⟩ => ?_
  subst he
  exact ⟨_, rfl, _, _, _, [], _, [], hW', trodAll_mk1 (shut_bool Try.underlying4 _), (trodAll_cons_mk (Below.trod laidOut (by kernel_rfl) (of_decide_eq_true (by kernel_rfl)) k0 bel lt0) (trodAll_cons_mk (Below.trod laidOut (by kernel_rfl) (of_decide_eq_true (by kernel_rfl)) k1 bel lt1) (trodAll_cons_mk (Below.trod laidOut (by kernel_rfl) (of_decide_eq_true (by kernel_rfl)) k2 bel lt2) (trodAll_cons_mk (Below.trod laidOut (by kernel_rfl) (of_decide_eq_true (by kernel_rfl)) k3 bel lt3) trodAll_mk0)))), rfl, bel.frame _, fun h => by cases h⟩

theorem over : Rows.fnExactDiffLedgersRow.holds Try.pinned (OpenSpec.ofChange Rows.fnExactDiffLedgersSpec) :=
  OpenClaim.holds_of_wide 3 Try.f3 rfl rfl rfl rfl rfl rfl rfl ⟨rfl, rfl, rfl, rfl, rfl⟩ rfl rfl rfl rfl rfl (by kernel_rfl) Try.func3 (by kernel_rfl)
    (of_decide_eq_true (by kernel_rfl)) (by unfold Func.isWrapper; first | (rw [if_pos (by decide +kernel)]; kernel_rfl) | (rw [if_neg (by decide +kernel)]; exact ⟨rfl, rfl⟩))
    (fun os started H enc _ => lifted os started H enc)

theorem proved : Rows.FnExactDiffLedgersSaid := over
end Go.Proofs.Ytiejogkhobiddaa.fnExactDiffLedgers

namespace Go.Proofs.Ytiejogkhobiddaa
theorem fnExactDiffLedgers_holds : Rows.FnExactDiffLedgersSaid := fnExactDiffLedgers.proved
#print axioms fnExactDiffLedgers_holds
end Go.Proofs.Ytiejogkhobiddaa
