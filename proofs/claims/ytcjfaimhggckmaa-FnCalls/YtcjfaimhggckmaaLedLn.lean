/-
  The program's ledger: AddCall.
-/
import Derived.Test.YtcjfaimhggckmaaLedE
import Derived.Test.YtcjfaimhggckmaaLedK
import Derived.Test.YtcjfaimhggckmaaFnd
import Derived.Test.YtcjfaimhggckmaaAdd7
import Derived.BigGuardPart
namespace Go.Proofs.Ytcjfaimhggckmaa
open Go.RowKit Pl
set_option linter.unusedSimpArgs false
set_option linter.unusedVariables false

theorem led_st {h : Hs} {x : Lg} (hk : Hs.led h x = 0) : ∀ (i : Nat) (p : Pe), x.ps[i]? = some p → 0 ≤ p.st ∧ p.st ≤ 4 := by
  have hf := led_C hk
  have h1 : Hs.first h x.nx 0 x.ps = 0 := by
    unfold Hs.ledC at hf
    split at hf
    case isFalse => omega
    split at hf
    case isTrue => omega
    split at hf
    · assumption
    · exact hf
  intro i p hp
  have : ∀ (l : List Pe) (last : Int), Hs.first h x.nx last l = 0 → ∀ (i : Nat) (p : Pe), l[i]? = some p → 0 ≤ p.st ∧ p.st ≤ 4 := by
    intro l
    induction l with
    | nil => intro last _ i p hp; simp at hp
    | cons q l ih =>
      intro last hl i p hp
      unfold Hs.first at hl
      split at hl
      case isFalse z => exact absurd hl z
      case isTrue z =>
        cases i with
        | zero =>
          simp at hp
          subst hp
          exact (pers_parts z).2.2
        | succ i => exact ih _ hl i p (by simpa using hp)
  exact this x.ps 0 h1 i p hp
set_option maxRecDepth 20000 in
set_option maxHeartbeats 16000000 in
theorem implAddCall_pin (h : Hs) (x : Lg) (f t sh ca : Int) (aa : Option Addr) (cap : Nat) (hl : x.ps.length ≤ 1048576) (w : World) (hP : PIn w w.heap.size aa x.ps) :
    Calls Try.prog 6 #[.agg #[.int .i64 h.fl, .int .i64 h.gp, .int .i64 h.ln, .int .i64 h.rf, .int .i64 h.sp, .int .i64 h.pu, .int .i64 h.br, .int .i64 h.dr, .int .i64 h.lv, .int .i64 h.dO, .int .i64 h.ld, .int .i64 h.qu], .agg #[.int .i64 x.nx, .slice aa x.ps.length cap], .int .i64 f, .int .i64 t, .int .i64 sh, .int .i64 ca] w (isLed w (Hs.addK h x f t sh ca) (Hs.addI h x f t sh ca) (Hs.addV h x f t sh ca).nx (Hs.addV h x f t sh ca).ps) := by
  have HP : Hid (PIn w w.heap.size aa x.ps) := hP
  clear hP
  obtain ⟨K, hK⟩ : ∃ K, Hs.addK h x f t sh ca = K := ⟨_, rfl⟩
  have e1 : Hs.addI h x f t sh ca = if K = 0 then x.nx else 0 := by unfold Hs.addI; rw [hK]
  have e2 : Hs.addV h x f t sh ca = if K = 0 then ⟨x.nx + 1, freeL x.ps ++ [(⟨x.nx, f, t, sh, ca, 0, 0⟩ : Pe)]⟩ else ⟨0, []⟩ := by unfold Hs.addV; rw [hK]
  rw [hK, e1, e2]
  unfold Hs.addK at hK
  clear e1 e2
  by_cases hz : orI (Hs.led h x) (Hs.call h f t) = 0
  case neg =>
    have hn : (orI (Hs.led h x) (Hs.call h f t) != 0) = true := by simpa using hz
    have hK2 : K = orI (Hs.led h x) (Hs.call h f t) := by
      rw [← hK]
      unfold orI Hs.addC at *
      by_cases q : Hs.led h x = 0
      · rw [if_pos q] at hz ⊢
        rw [if_pos q, if_neg hz]
      · rw [if_neg q, if_neg q]
    subst hK2
    rw [if_neg hz, if_neg hz]
    clear hz hK
    go_enter Try.func6, Try.ntmps6
    go_upto_region 1 with fail
    obtain ⟨W0, hW0⟩ : ∃ W0, W0 = (((w.alloc (.cells #[.int .i64 h.fl, .int .i64 h.gp, .int .i64 h.ln, .int .i64 h.rf, .int .i64 h.sp, .int .i64 h.pu, .int .i64 h.br, .int .i64 h.dr, .int .i64 h.lv, .int .i64 h.dO, .int .i64 h.ld, .int .i64 h.qu] 25)).alloc (.cells #[.int .i64 x.nx, .slice aa x.ps.length cap] 28)).alloc (.cells #[.int .i64 0, .int .i64 0, .int .i64 0, .slice none 0 0] 32)) := ⟨_, rfl⟩
    have F0 : Hid (HAt W0 w.heap.size h) := by rw [hW0]; exact ((HAt.at_ w h _ _ rfl).alloc _).alloc _
    have F1 : Hid (LW W0 (w.heap.size + 1) x.nx (.slice aa x.ps.length cap)) := by rw [hW0]; exact (LW.at_ _ x.nx (.slice aa x.ps.length cap) _ _ (by simp)).alloc _
    have F2 : Hid (RL W0 (w.heap.size + 2)) := by rw [hW0]; exact RL.at_ _ _ _ (by simp)
    have FB : Hid (Below w.heap.size w W0) := by rw [hW0]; exact (((Below.refl _ _).alloc (Nat.le_refl _) _).alloc (by simp) _).alloc (by simp; omega) _
    rw [← hW0]
    clear hW0
    have F0 : Hid (HAt W0.drew w.heap.size h) := F0.out.below (Below.refl _ _).drew F0.out.lt
    have F1 : Hid (LW W0.drew (w.heap.size + 1) x.nx (.slice aa x.ps.length cap)) := F1.out.below (Below.refl _ _).drew F1.out.lt
    have F2 : Hid (RL W0.drew (w.heap.size + 2)) := F2.out.below (Below.refl _ _).drew F2.out.lt
    have FB : Hid (Below w.heap.size w W0.drew) := FB.out.drew
    obtain ⟨x0_0, x0_1, x0_2, x0_3, x0_4, x0_5, x0_6, x0_7, x0_8, x0_9, x0_10, x0_11⟩ := F0.out
    have m0 := F1.out.c0
    have m1 := F1.out.c1
    refine wp_region_held_drew (S := (fun w'' => w''.cell? ⟨w.heap.size, 0, none⟩ = some (.int .i64 h.fl) ∧ w''.cell? ⟨w.heap.size, 1, none⟩ = some (.int .i64 h.gp) ∧ w''.cell? ⟨w.heap.size, 2, none⟩ = some (.int .i64 h.ln) ∧ w''.cell? ⟨w.heap.size, 3, none⟩ = some (.int .i64 h.rf) ∧ w''.cell? ⟨w.heap.size, 4, none⟩ = some (.int .i64 h.sp) ∧ w''.cell? ⟨w.heap.size, 5, none⟩ = some (.int .i64 h.pu) ∧ w''.cell? ⟨w.heap.size, 6, none⟩ = some (.int .i64 h.br) ∧ w''.cell? ⟨w.heap.size, 7, none⟩ = some (.int .i64 h.dr) ∧ w''.cell? ⟨w.heap.size, 8, none⟩ = some (.int .i64 h.lv) ∧ w''.cell? ⟨w.heap.size, 9, none⟩ = some (.int .i64 h.dO) ∧ w''.cell? ⟨w.heap.size, 10, none⟩ = some (.int .i64 h.ld) ∧ w''.cell? ⟨w.heap.size, 11, none⟩ = some (.int .i64 h.qu) ∧ w''.cell? ⟨(w.heap.size + 1), 0, none⟩ = some (.int .i64 x.nx) ∧ w''.cell? ⟨(w.heap.size + 1), 1, none⟩ = some (.slice aa x.ps.length cap))) (by kernel_rfl) (by (try dsimp only); first | exact ⟨x0_0, x0_1, x0_2, x0_3, x0_4, x0_5, x0_6, x0_7, x0_8, x0_9, x0_10, x0_11, m0, m1⟩ | go_keep) (fun hHeld => ?_)
    obtain ⟨v_1, hw1⟩ : ∃ v_1, v_1 = W0.drew := ⟨_, rfl⟩
    have F0 : Hid (HAt v_1 w.heap.size h) := by rw [hw1]; exact F0.out
    have F1 : Hid (LW v_1 (w.heap.size + 1) x.nx (.slice aa x.ps.length cap)) := by rw [hw1]; exact F1.out
    have F2 : Hid (RL v_1 (w.heap.size + 2)) := by rw [hw1]; exact F2.out
    have FB : Hid (Below w.heap.size w v_1) := by rw [hw1]; exact FB.out
    rw [← hw1] at hHeld ⊢
    clear hw1
    obtain ⟨x0_0, x0_1, x0_2, x0_3, x0_4, x0_5, x0_6, x0_7, x0_8, x0_9, x0_10, x0_11⟩ := F0.out
    have m0 := F1.out.c0
    have m1 := F1.out.c1
    refine tkz 0 rfl ?_
    refine tkz 1 rfl ?_
    refine tkz 3 rfl ?_
    refine tkz 4 rfl ?_
    refine tkz 5 rfl ?_
    refine wpAnyH_ready (rs := [2]) (by kernel_rfl) (by simp) ?_
    refine (AllReadyH.cons rfl (fun K hK => ?_) AllReadyH.nil)
    go_simp
    refine (implLedgerFault_any h x aa cap hl _ ((HP.out.below FB.out (Nat.le_refl _)).mono FB.out.size)).mono ?_
    rintro e v_2 ⟨rfl, hb⟩
    have F0 : Hid (HAt v_2 w.heap.size h) := F0.out.below hb F0.out.lt
    have F1 : Hid (LW v_2 (w.heap.size + 1) x.nx (.slice aa x.ps.length cap)) := F1.out.below hb F1.out.lt
    have F2 : Hid (RL v_2 (w.heap.size + 2)) := F2.out.below hb F2.out.lt
    have FB : Hid (Below w.heap.size w v_2) := FB.out.trans (hb.mono FB.out.size)
    clear hb
    obtain ⟨x0_0, x0_1, x0_2, x0_3, x0_4, x0_5, x0_6, x0_7, x0_8, x0_9, x0_10, x0_11⟩ := F0.out
    have m0 := F1.out.c0
    have m1 := F1.out.c1
    try dsimp only
    refine hK.out _ _ (by (try dsimp only); first | exact ⟨x0_0, x0_1, x0_2, x0_3, x0_4, x0_5, x0_6, x0_7, x0_8, x0_9, x0_10, x0_11, m0, m1⟩ | go_keep) (fun hHeld => ?_)
    clear hK K
    try simp only [Act.put, List.getElem_toArray, List.getElem_cons_succ, List.getElem_cons_zero, List.setIfInBounds_toArray, List.set_cons_zero, List.set_cons_succ]
    refine wpAnyH_ready (rs := [6]) (by kernel_rfl) (by simp) ?_
    refine (AllReadyH.cons rfl (fun K hK => ?_) AllReadyH.nil)
    go_simp
    refine (implCallFault_any h f t _).mono ?_
    rintro e v_3 ⟨rfl, hb⟩
    have F0 : Hid (HAt v_3 w.heap.size h) := F0.out.below hb F0.out.lt
    have F1 : Hid (LW v_3 (w.heap.size + 1) x.nx (.slice aa x.ps.length cap)) := F1.out.below hb F1.out.lt
    have F2 : Hid (RL v_3 (w.heap.size + 2)) := F2.out.below hb F2.out.lt
    have FB : Hid (Below w.heap.size w v_3) := FB.out.trans (hb.mono FB.out.size)
    clear hb
    obtain ⟨x0_0, x0_1, x0_2, x0_3, x0_4, x0_5, x0_6, x0_7, x0_8, x0_9, x0_10, x0_11⟩ := F0.out
    have m0 := F1.out.c0
    have m1 := F1.out.c1
    try dsimp only
    refine hK.out _ _ (by (try dsimp only); first | exact ⟨x0_0, x0_1, x0_2, x0_3, x0_4, x0_5, x0_6, x0_7, x0_8, x0_9, x0_10, x0_11, m0, m1⟩ | go_keep) (fun hHeld => ?_)
    clear hK K
    try simp only [Act.put, List.getElem_toArray, List.getElem_cons_succ, List.getElem_cons_zero, List.setIfInBounds_toArray, List.set_cons_zero, List.set_cons_succ]
    refine wpAnyH_ready (rs := [7]) (by kernel_rfl) (by simp) ?_
    refine (AllReadyH.cons rfl (fun K hK => ?_) AllReadyH.nil)
    go_simp
    obtain ⟨lb0, hbb⟩ : ∃ lb0, lb0 = v_3.heap.size := ⟨_, rfl⟩
    obtain ⟨v_4, hw2⟩ : ∃ v_4, v_4 = v_3.alloc (.cells #[.int .i64 (Hs.led h x), .int .i64 (Hs.call h f t)] 2) := ⟨_, rfl⟩
    have nlb0_0 := F0.out.lt
    rw [← hbb] at nlb0_0
    have nlb0_1 := F1.out.lt
    rw [← hbb] at nlb0_1
    have nlb0_2 := F2.out.lt
    rw [← hbb] at nlb0_2
    have FL0 : Hid (Pr2 v_4 lb0 (Hs.led h x) (Hs.call h f t)) := by rw [hw2]; exact Pr2.at_ v_3 _ _ _ lb0 hbb
    have F0 : Hid (HAt v_4 w.heap.size h) := by rw [hw2]; exact F0.out.alloc _
    have F1 : Hid (LW v_4 (w.heap.size + 1) x.nx (.slice aa x.ps.length cap)) := by rw [hw2]; exact F1.out.alloc _
    have F2 : Hid (RL v_4 (w.heap.size + 2)) := by rw [hw2]; exact F2.out.alloc _
    have FB : Hid (Below w.heap.size w v_4) := by rw [hw2]; exact FB.out.alloc FB.out.size _
    rw [← hw2, ← hbb]
    clear hbb hw2
    obtain ⟨x0_0, x0_1, x0_2, x0_3, x0_4, x0_5, x0_6, x0_7, x0_8, x0_9, x0_10, x0_11⟩ := F0.out
    have m0 := F1.out.c0
    have m1 := F1.out.c1
    refine hK.out _ _ (by (try dsimp only); first | exact ⟨x0_0, x0_1, x0_2, x0_3, x0_4, x0_5, x0_6, x0_7, x0_8, x0_9, x0_10, x0_11, m0, m1⟩ | go_keep) (fun hHeld => ?_)
    clear hK K
    try simp only [Act.put, List.getElem_toArray, List.getElem_cons_succ, List.getElem_cons_zero, List.setIfInBounds_toArray, List.set_cons_zero, List.set_cons_succ]
    refine wpAnyH_ready (rs := [8]) (by kernel_rfl) (by simp) ?_
    refine (AllReadyH.cons rfl (fun K hK => ?_) AllReadyH.nil)
    go_simp
    refine (or_any (Hs.led h x) (Hs.call h f t) _ _ FL0.out.c0 FL0.out.c1).mono ?_
    rintro e w_ ⟨rfl, hw⟩
    obtain rfl := hw.symm
    clear hw
    try dsimp only
    refine hK.out _ _ (by (try dsimp only); first | exact ⟨x0_0, x0_1, x0_2, x0_3, x0_4, x0_5, x0_6, x0_7, x0_8, x0_9, x0_10, x0_11, m0, m1⟩ | go_keep) (fun hHeld => ?_)
    clear hK K
    try simp only [Act.put, List.getElem_toArray, List.getElem_cons_succ, List.getElem_cons_zero, List.setIfInBounds_toArray, List.set_cons_zero, List.set_cons_succ]
    refine tkz 9 rfl ?_
    refine wpAnyH_done (by kernel_rfl) ?_ _
    go_upto_region 3 with fail
    obtain ⟨w2, hW_⟩ : ∃ w2, w2 = v_4 := ⟨_, rfl⟩
    have F0 : Hid (HAt w2 w.heap.size h) := by rw [hW_]; exact F0.out
    have F1 : Hid (LW w2 (w.heap.size + 1) x.nx (.slice aa x.ps.length cap)) := by rw [hW_]; exact F1.out
    have F2 : Hid (RL w2 (w.heap.size + 2)) := by rw [hW_]; exact F2.out
    have FB : Hid (Below w.heap.size w w2) := by rw [hW_]; exact FB.out
    rw [← hW_]
    clear hW_
    obtain ⟨r0, r1, r2, r3, s0, s1, s2, s3⟩ := F2.out
    go_wp2_with fail
    exact bodyPost_ret (v := .agg #[.int .i64 (orI (Hs.led h x) (Hs.call h f t)), .int .i64 0, .int .i64 0, .slice none 0 0]) (by simp [results, Try.results6, go_sem, r0, r1, r2, r3]) rfl ⟨_, rfl, own_nil _ _, (((FB.out.setCell (by simp <;> omega) _).setCell (by simp <;> omega) _).setCell (by simp <;> omega) _).setCell (by simp <;> omega) _⟩
  have hled : Hs.led h x = 0 := by
    unfold orI at hz
    by_cases q : Hs.led h x = 0
    · exact q
    · rw [if_neg q] at hz; exact absurd hz q
  have hcall : Hs.call h f t = 0 := by unfold orI at hz; rw [if_pos hled] at hz; exact hz
  have hlen : x.ps.length ≤ 60 := led_len hled
  have HS : Hid (∀ (i : Nat) (p : Pe), x.ps[i]? = some p → 0 ≤ p.st ∧ p.st ≤ 4) := led_st hled
  have n2 := led_nx hled
  rw [if_pos hled] at hK
  unfold Hs.addC at hK
  rw [if_pos hcall] at hK
  cases kc : (inB sh 0 2 && inB ca 0 1)
  · rw [show carB sh ca = false from kc, if_neg (by simp)] at hK
    subst hK
    rw [if_neg (by omega), if_neg (by omega)]
    clear hled hcall
    go_enter Try.func6, Try.ntmps6
    go_upto_region 1 with fail
    obtain ⟨W0, hW0⟩ : ∃ W0, W0 = (((w.alloc (.cells #[.int .i64 h.fl, .int .i64 h.gp, .int .i64 h.ln, .int .i64 h.rf, .int .i64 h.sp, .int .i64 h.pu, .int .i64 h.br, .int .i64 h.dr, .int .i64 h.lv, .int .i64 h.dO, .int .i64 h.ld, .int .i64 h.qu] 25)).alloc (.cells #[.int .i64 x.nx, .slice aa x.ps.length cap] 28)).alloc (.cells #[.int .i64 0, .int .i64 0, .int .i64 0, .slice none 0 0] 32)) := ⟨_, rfl⟩
    have F0 : Hid (HAt W0 w.heap.size h) := by rw [hW0]; exact ((HAt.at_ w h _ _ rfl).alloc _).alloc _
    have F1 : Hid (LW W0 (w.heap.size + 1) x.nx (.slice aa x.ps.length cap)) := by rw [hW0]; exact (LW.at_ _ x.nx (.slice aa x.ps.length cap) _ _ (by simp)).alloc _
    have F2 : Hid (RL W0 (w.heap.size + 2)) := by rw [hW0]; exact RL.at_ _ _ _ (by simp)
    have FB : Hid (Below w.heap.size w W0) := by rw [hW0]; exact (((Below.refl _ _).alloc (Nat.le_refl _) _).alloc (by simp) _).alloc (by simp; omega) _
    rw [← hW0]
    clear hW0
    have F0 : Hid (HAt W0.drew w.heap.size h) := F0.out.below (Below.refl _ _).drew F0.out.lt
    have F1 : Hid (LW W0.drew (w.heap.size + 1) x.nx (.slice aa x.ps.length cap)) := F1.out.below (Below.refl _ _).drew F1.out.lt
    have F2 : Hid (RL W0.drew (w.heap.size + 2)) := F2.out.below (Below.refl _ _).drew F2.out.lt
    have FB : Hid (Below w.heap.size w W0.drew) := FB.out.drew
    obtain ⟨x0_0, x0_1, x0_2, x0_3, x0_4, x0_5, x0_6, x0_7, x0_8, x0_9, x0_10, x0_11⟩ := F0.out
    have m0 := F1.out.c0
    have m1 := F1.out.c1
    refine wp_region_held_drew (S := (fun w'' => w''.cell? ⟨w.heap.size, 0, none⟩ = some (.int .i64 h.fl) ∧ w''.cell? ⟨w.heap.size, 1, none⟩ = some (.int .i64 h.gp) ∧ w''.cell? ⟨w.heap.size, 2, none⟩ = some (.int .i64 h.ln) ∧ w''.cell? ⟨w.heap.size, 3, none⟩ = some (.int .i64 h.rf) ∧ w''.cell? ⟨w.heap.size, 4, none⟩ = some (.int .i64 h.sp) ∧ w''.cell? ⟨w.heap.size, 5, none⟩ = some (.int .i64 h.pu) ∧ w''.cell? ⟨w.heap.size, 6, none⟩ = some (.int .i64 h.br) ∧ w''.cell? ⟨w.heap.size, 7, none⟩ = some (.int .i64 h.dr) ∧ w''.cell? ⟨w.heap.size, 8, none⟩ = some (.int .i64 h.lv) ∧ w''.cell? ⟨w.heap.size, 9, none⟩ = some (.int .i64 h.dO) ∧ w''.cell? ⟨w.heap.size, 10, none⟩ = some (.int .i64 h.ld) ∧ w''.cell? ⟨w.heap.size, 11, none⟩ = some (.int .i64 h.qu) ∧ w''.cell? ⟨(w.heap.size + 1), 0, none⟩ = some (.int .i64 x.nx) ∧ w''.cell? ⟨(w.heap.size + 1), 1, none⟩ = some (.slice aa x.ps.length cap))) (by kernel_rfl) (by (try dsimp only); first | exact ⟨x0_0, x0_1, x0_2, x0_3, x0_4, x0_5, x0_6, x0_7, x0_8, x0_9, x0_10, x0_11, m0, m1⟩ | go_keep) (fun hHeld => ?_)
    obtain ⟨v_5, hw1⟩ : ∃ v_5, v_5 = W0.drew := ⟨_, rfl⟩
    have F0 : Hid (HAt v_5 w.heap.size h) := by rw [hw1]; exact F0.out
    have F1 : Hid (LW v_5 (w.heap.size + 1) x.nx (.slice aa x.ps.length cap)) := by rw [hw1]; exact F1.out
    have F2 : Hid (RL v_5 (w.heap.size + 2)) := by rw [hw1]; exact F2.out
    have FB : Hid (Below w.heap.size w v_5) := by rw [hw1]; exact FB.out
    rw [← hw1] at hHeld ⊢
    clear hw1
    obtain ⟨x0_0, x0_1, x0_2, x0_3, x0_4, x0_5, x0_6, x0_7, x0_8, x0_9, x0_10, x0_11⟩ := F0.out
    have m0 := F1.out.c0
    have m1 := F1.out.c1
    refine tkz 0 rfl ?_
    refine tkz 1 rfl ?_
    refine tkz 3 rfl ?_
    refine tkz 4 rfl ?_
    refine tkz 5 rfl ?_
    refine wpAnyH_ready (rs := [2]) (by kernel_rfl) (by simp) ?_
    refine (AllReadyH.cons rfl (fun K hK => ?_) AllReadyH.nil)
    go_simp
    refine (implLedgerFault_any h x aa cap hl _ ((HP.out.below FB.out (Nat.le_refl _)).mono FB.out.size)).mono ?_
    rintro e v_6 ⟨rfl, hb⟩
    have F0 : Hid (HAt v_6 w.heap.size h) := F0.out.below hb F0.out.lt
    have F1 : Hid (LW v_6 (w.heap.size + 1) x.nx (.slice aa x.ps.length cap)) := F1.out.below hb F1.out.lt
    have F2 : Hid (RL v_6 (w.heap.size + 2)) := F2.out.below hb F2.out.lt
    have FB : Hid (Below w.heap.size w v_6) := FB.out.trans (hb.mono FB.out.size)
    clear hb
    obtain ⟨x0_0, x0_1, x0_2, x0_3, x0_4, x0_5, x0_6, x0_7, x0_8, x0_9, x0_10, x0_11⟩ := F0.out
    have m0 := F1.out.c0
    have m1 := F1.out.c1
    try dsimp only
    refine hK.out _ _ (by (try dsimp only); first | exact ⟨x0_0, x0_1, x0_2, x0_3, x0_4, x0_5, x0_6, x0_7, x0_8, x0_9, x0_10, x0_11, m0, m1⟩ | go_keep) (fun hHeld => ?_)
    clear hK K
    try simp only [Act.put, List.getElem_toArray, List.getElem_cons_succ, List.getElem_cons_zero, List.setIfInBounds_toArray, List.set_cons_zero, List.set_cons_succ]
    refine wpAnyH_ready (rs := [6]) (by kernel_rfl) (by simp) ?_
    refine (AllReadyH.cons rfl (fun K hK => ?_) AllReadyH.nil)
    go_simp
    refine (implCallFault_any h f t _).mono ?_
    rintro e v_7 ⟨rfl, hb⟩
    have F0 : Hid (HAt v_7 w.heap.size h) := F0.out.below hb F0.out.lt
    have F1 : Hid (LW v_7 (w.heap.size + 1) x.nx (.slice aa x.ps.length cap)) := F1.out.below hb F1.out.lt
    have F2 : Hid (RL v_7 (w.heap.size + 2)) := F2.out.below hb F2.out.lt
    have FB : Hid (Below w.heap.size w v_7) := FB.out.trans (hb.mono FB.out.size)
    clear hb
    obtain ⟨x0_0, x0_1, x0_2, x0_3, x0_4, x0_5, x0_6, x0_7, x0_8, x0_9, x0_10, x0_11⟩ := F0.out
    have m0 := F1.out.c0
    have m1 := F1.out.c1
    try dsimp only
    refine hK.out _ _ (by (try dsimp only); first | exact ⟨x0_0, x0_1, x0_2, x0_3, x0_4, x0_5, x0_6, x0_7, x0_8, x0_9, x0_10, x0_11, m0, m1⟩ | go_keep) (fun hHeld => ?_)
    clear hK K
    try simp only [Act.put, List.getElem_toArray, List.getElem_cons_succ, List.getElem_cons_zero, List.setIfInBounds_toArray, List.set_cons_zero, List.set_cons_succ]
    refine wpAnyH_ready (rs := [7]) (by kernel_rfl) (by simp) ?_
    refine (AllReadyH.cons rfl (fun K hK => ?_) AllReadyH.nil)
    go_simp
    obtain ⟨lb0, hbb⟩ : ∃ lb0, lb0 = v_7.heap.size := ⟨_, rfl⟩
    obtain ⟨v_8, hw2⟩ : ∃ v_8, v_8 = v_7.alloc (.cells #[.int .i64 (Hs.led h x), .int .i64 (Hs.call h f t)] 2) := ⟨_, rfl⟩
    have nlb0_0 := F0.out.lt
    rw [← hbb] at nlb0_0
    have nlb0_1 := F1.out.lt
    rw [← hbb] at nlb0_1
    have nlb0_2 := F2.out.lt
    rw [← hbb] at nlb0_2
    have FL0 : Hid (Pr2 v_8 lb0 (Hs.led h x) (Hs.call h f t)) := by rw [hw2]; exact Pr2.at_ v_7 _ _ _ lb0 hbb
    have F0 : Hid (HAt v_8 w.heap.size h) := by rw [hw2]; exact F0.out.alloc _
    have F1 : Hid (LW v_8 (w.heap.size + 1) x.nx (.slice aa x.ps.length cap)) := by rw [hw2]; exact F1.out.alloc _
    have F2 : Hid (RL v_8 (w.heap.size + 2)) := by rw [hw2]; exact F2.out.alloc _
    have FB : Hid (Below w.heap.size w v_8) := by rw [hw2]; exact FB.out.alloc FB.out.size _
    rw [← hw2, ← hbb]
    clear hbb hw2
    obtain ⟨x0_0, x0_1, x0_2, x0_3, x0_4, x0_5, x0_6, x0_7, x0_8, x0_9, x0_10, x0_11⟩ := F0.out
    have m0 := F1.out.c0
    have m1 := F1.out.c1
    refine hK.out _ _ (by (try dsimp only); first | exact ⟨x0_0, x0_1, x0_2, x0_3, x0_4, x0_5, x0_6, x0_7, x0_8, x0_9, x0_10, x0_11, m0, m1⟩ | go_keep) (fun hHeld => ?_)
    clear hK K
    try simp only [Act.put, List.getElem_toArray, List.getElem_cons_succ, List.getElem_cons_zero, List.setIfInBounds_toArray, List.set_cons_zero, List.set_cons_succ]
    refine wpAnyH_ready (rs := [8]) (by kernel_rfl) (by simp) ?_
    refine (AllReadyH.cons rfl (fun K hK => ?_) AllReadyH.nil)
    go_simp
    refine (or_any (Hs.led h x) (Hs.call h f t) _ _ FL0.out.c0 FL0.out.c1).mono ?_
    rintro e w_ ⟨rfl, hw⟩
    obtain rfl := hw.symm
    clear hw
    try dsimp only
    refine hK.out _ _ (by (try dsimp only); first | exact ⟨x0_0, x0_1, x0_2, x0_3, x0_4, x0_5, x0_6, x0_7, x0_8, x0_9, x0_10, x0_11, m0, m1⟩ | go_keep) (fun hHeld => ?_)
    clear hK K
    try simp only [Act.put, List.getElem_toArray, List.getElem_cons_succ, List.getElem_cons_zero, List.setIfInBounds_toArray, List.set_cons_zero, List.set_cons_succ]
    refine tkz 9 rfl ?_
    refine wpAnyH_done (by kernel_rfl) ?_ _
    go_upto_region 5 with (go_at_call 18; refine (isCar_any _ _ _).mono ?_; rw [kc]; rintro e w' ⟨rfl, hw⟩; obtain rfl := hw.symm; clear hw)
    obtain ⟨w2, hW_⟩ : ∃ w2, w2 = v_8 := ⟨_, rfl⟩
    have F0 : Hid (HAt w2 w.heap.size h) := by rw [hW_]; exact F0.out
    have F1 : Hid (LW w2 (w.heap.size + 1) x.nx (.slice aa x.ps.length cap)) := by rw [hW_]; exact F1.out
    have F2 : Hid (RL w2 (w.heap.size + 2)) := by rw [hW_]; exact F2.out
    have FB : Hid (Below w.heap.size w w2) := by rw [hW_]; exact FB.out
    rw [← hW_]
    clear hW_
    obtain ⟨r0, r1, r2, r3, s0, s1, s2, s3⟩ := F2.out
    go_wp2_with fail
    exact bodyPost_ret (v := .agg #[.int .i64 3, .int .i64 0, .int .i64 0, .slice none 0 0]) (by simp [results, Try.results6, go_sem, r0, r1, r2, r3]) rfl ⟨_, rfl, own_nil _ _, (((FB.out.setCell (by simp <;> omega) _).setCell (by simp <;> omega) _).setCell (by simp <;> omega) _).setCell (by simp <;> omega) _⟩
  rw [show carB sh ca = true from kc, if_pos rfl] at hK
  by_cases kq : h.qu ≤ (cnt 0 (-1) 0 x.ps : Int)
  · rw [if_pos kq] at hK
    subst hK
    rw [if_neg (by omega), if_neg (by omega)]
    have bq : decide (h.qu ≤ (cnt 0 (-1) 0 x.ps : Int)) = true := decide_eq_true kq
    clear hled hcall kq
    go_enter Try.func6, Try.ntmps6
    go_upto_region 1 with fail
    obtain ⟨W0, hW0⟩ : ∃ W0, W0 = (((w.alloc (.cells #[.int .i64 h.fl, .int .i64 h.gp, .int .i64 h.ln, .int .i64 h.rf, .int .i64 h.sp, .int .i64 h.pu, .int .i64 h.br, .int .i64 h.dr, .int .i64 h.lv, .int .i64 h.dO, .int .i64 h.ld, .int .i64 h.qu] 25)).alloc (.cells #[.int .i64 x.nx, .slice aa x.ps.length cap] 28)).alloc (.cells #[.int .i64 0, .int .i64 0, .int .i64 0, .slice none 0 0] 32)) := ⟨_, rfl⟩
    have F0 : Hid (HAt W0 w.heap.size h) := by rw [hW0]; exact ((HAt.at_ w h _ _ rfl).alloc _).alloc _
    have F1 : Hid (LW W0 (w.heap.size + 1) x.nx (.slice aa x.ps.length cap)) := by rw [hW0]; exact (LW.at_ _ x.nx (.slice aa x.ps.length cap) _ _ (by simp)).alloc _
    have F2 : Hid (RL W0 (w.heap.size + 2)) := by rw [hW0]; exact RL.at_ _ _ _ (by simp)
    have FB : Hid (Below w.heap.size w W0) := by rw [hW0]; exact (((Below.refl _ _).alloc (Nat.le_refl _) _).alloc (by simp) _).alloc (by simp; omega) _
    rw [← hW0]
    clear hW0
    have F0 : Hid (HAt W0.drew w.heap.size h) := F0.out.below (Below.refl _ _).drew F0.out.lt
    have F1 : Hid (LW W0.drew (w.heap.size + 1) x.nx (.slice aa x.ps.length cap)) := F1.out.below (Below.refl _ _).drew F1.out.lt
    have F2 : Hid (RL W0.drew (w.heap.size + 2)) := F2.out.below (Below.refl _ _).drew F2.out.lt
    have FB : Hid (Below w.heap.size w W0.drew) := FB.out.drew
    obtain ⟨x0_0, x0_1, x0_2, x0_3, x0_4, x0_5, x0_6, x0_7, x0_8, x0_9, x0_10, x0_11⟩ := F0.out
    have m0 := F1.out.c0
    have m1 := F1.out.c1
    refine wp_region_held_drew (S := (fun w'' => w''.cell? ⟨w.heap.size, 0, none⟩ = some (.int .i64 h.fl) ∧ w''.cell? ⟨w.heap.size, 1, none⟩ = some (.int .i64 h.gp) ∧ w''.cell? ⟨w.heap.size, 2, none⟩ = some (.int .i64 h.ln) ∧ w''.cell? ⟨w.heap.size, 3, none⟩ = some (.int .i64 h.rf) ∧ w''.cell? ⟨w.heap.size, 4, none⟩ = some (.int .i64 h.sp) ∧ w''.cell? ⟨w.heap.size, 5, none⟩ = some (.int .i64 h.pu) ∧ w''.cell? ⟨w.heap.size, 6, none⟩ = some (.int .i64 h.br) ∧ w''.cell? ⟨w.heap.size, 7, none⟩ = some (.int .i64 h.dr) ∧ w''.cell? ⟨w.heap.size, 8, none⟩ = some (.int .i64 h.lv) ∧ w''.cell? ⟨w.heap.size, 9, none⟩ = some (.int .i64 h.dO) ∧ w''.cell? ⟨w.heap.size, 10, none⟩ = some (.int .i64 h.ld) ∧ w''.cell? ⟨w.heap.size, 11, none⟩ = some (.int .i64 h.qu) ∧ w''.cell? ⟨(w.heap.size + 1), 0, none⟩ = some (.int .i64 x.nx) ∧ w''.cell? ⟨(w.heap.size + 1), 1, none⟩ = some (.slice aa x.ps.length cap))) (by kernel_rfl) (by (try dsimp only); first | exact ⟨x0_0, x0_1, x0_2, x0_3, x0_4, x0_5, x0_6, x0_7, x0_8, x0_9, x0_10, x0_11, m0, m1⟩ | go_keep) (fun hHeld => ?_)
    obtain ⟨v_9, hw1⟩ : ∃ v_9, v_9 = W0.drew := ⟨_, rfl⟩
    have F0 : Hid (HAt v_9 w.heap.size h) := by rw [hw1]; exact F0.out
    have F1 : Hid (LW v_9 (w.heap.size + 1) x.nx (.slice aa x.ps.length cap)) := by rw [hw1]; exact F1.out
    have F2 : Hid (RL v_9 (w.heap.size + 2)) := by rw [hw1]; exact F2.out
    have FB : Hid (Below w.heap.size w v_9) := by rw [hw1]; exact FB.out
    rw [← hw1] at hHeld ⊢
    clear hw1
    obtain ⟨x0_0, x0_1, x0_2, x0_3, x0_4, x0_5, x0_6, x0_7, x0_8, x0_9, x0_10, x0_11⟩ := F0.out
    have m0 := F1.out.c0
    have m1 := F1.out.c1
    refine tkz 0 rfl ?_
    refine tkz 1 rfl ?_
    refine tkz 3 rfl ?_
    refine tkz 4 rfl ?_
    refine tkz 5 rfl ?_
    refine wpAnyH_ready (rs := [2]) (by kernel_rfl) (by simp) ?_
    refine (AllReadyH.cons rfl (fun K hK => ?_) AllReadyH.nil)
    go_simp
    refine (implLedgerFault_any h x aa cap hl _ ((HP.out.below FB.out (Nat.le_refl _)).mono FB.out.size)).mono ?_
    rintro e v_10 ⟨rfl, hb⟩
    have F0 : Hid (HAt v_10 w.heap.size h) := F0.out.below hb F0.out.lt
    have F1 : Hid (LW v_10 (w.heap.size + 1) x.nx (.slice aa x.ps.length cap)) := F1.out.below hb F1.out.lt
    have F2 : Hid (RL v_10 (w.heap.size + 2)) := F2.out.below hb F2.out.lt
    have FB : Hid (Below w.heap.size w v_10) := FB.out.trans (hb.mono FB.out.size)
    clear hb
    obtain ⟨x0_0, x0_1, x0_2, x0_3, x0_4, x0_5, x0_6, x0_7, x0_8, x0_9, x0_10, x0_11⟩ := F0.out
    have m0 := F1.out.c0
    have m1 := F1.out.c1
    try dsimp only
    refine hK.out _ _ (by (try dsimp only); first | exact ⟨x0_0, x0_1, x0_2, x0_3, x0_4, x0_5, x0_6, x0_7, x0_8, x0_9, x0_10, x0_11, m0, m1⟩ | go_keep) (fun hHeld => ?_)
    clear hK K
    try simp only [Act.put, List.getElem_toArray, List.getElem_cons_succ, List.getElem_cons_zero, List.setIfInBounds_toArray, List.set_cons_zero, List.set_cons_succ]
    refine wpAnyH_ready (rs := [6]) (by kernel_rfl) (by simp) ?_
    refine (AllReadyH.cons rfl (fun K hK => ?_) AllReadyH.nil)
    go_simp
    refine (implCallFault_any h f t _).mono ?_
    rintro e v_11 ⟨rfl, hb⟩
    have F0 : Hid (HAt v_11 w.heap.size h) := F0.out.below hb F0.out.lt
    have F1 : Hid (LW v_11 (w.heap.size + 1) x.nx (.slice aa x.ps.length cap)) := F1.out.below hb F1.out.lt
    have F2 : Hid (RL v_11 (w.heap.size + 2)) := F2.out.below hb F2.out.lt
    have FB : Hid (Below w.heap.size w v_11) := FB.out.trans (hb.mono FB.out.size)
    clear hb
    obtain ⟨x0_0, x0_1, x0_2, x0_3, x0_4, x0_5, x0_6, x0_7, x0_8, x0_9, x0_10, x0_11⟩ := F0.out
    have m0 := F1.out.c0
    have m1 := F1.out.c1
    try dsimp only
    refine hK.out _ _ (by (try dsimp only); first | exact ⟨x0_0, x0_1, x0_2, x0_3, x0_4, x0_5, x0_6, x0_7, x0_8, x0_9, x0_10, x0_11, m0, m1⟩ | go_keep) (fun hHeld => ?_)
    clear hK K
    try simp only [Act.put, List.getElem_toArray, List.getElem_cons_succ, List.getElem_cons_zero, List.setIfInBounds_toArray, List.set_cons_zero, List.set_cons_succ]
    refine wpAnyH_ready (rs := [7]) (by kernel_rfl) (by simp) ?_
    refine (AllReadyH.cons rfl (fun K hK => ?_) AllReadyH.nil)
    go_simp
    obtain ⟨lb0, hbb⟩ : ∃ lb0, lb0 = v_11.heap.size := ⟨_, rfl⟩
    obtain ⟨v_12, hw2⟩ : ∃ v_12, v_12 = v_11.alloc (.cells #[.int .i64 (Hs.led h x), .int .i64 (Hs.call h f t)] 2) := ⟨_, rfl⟩
    have nlb0_0 := F0.out.lt
    rw [← hbb] at nlb0_0
    have nlb0_1 := F1.out.lt
    rw [← hbb] at nlb0_1
    have nlb0_2 := F2.out.lt
    rw [← hbb] at nlb0_2
    have FL0 : Hid (Pr2 v_12 lb0 (Hs.led h x) (Hs.call h f t)) := by rw [hw2]; exact Pr2.at_ v_11 _ _ _ lb0 hbb
    have F0 : Hid (HAt v_12 w.heap.size h) := by rw [hw2]; exact F0.out.alloc _
    have F1 : Hid (LW v_12 (w.heap.size + 1) x.nx (.slice aa x.ps.length cap)) := by rw [hw2]; exact F1.out.alloc _
    have F2 : Hid (RL v_12 (w.heap.size + 2)) := by rw [hw2]; exact F2.out.alloc _
    have FB : Hid (Below w.heap.size w v_12) := by rw [hw2]; exact FB.out.alloc FB.out.size _
    rw [← hw2, ← hbb]
    clear hbb hw2
    obtain ⟨x0_0, x0_1, x0_2, x0_3, x0_4, x0_5, x0_6, x0_7, x0_8, x0_9, x0_10, x0_11⟩ := F0.out
    have m0 := F1.out.c0
    have m1 := F1.out.c1
    refine hK.out _ _ (by (try dsimp only); first | exact ⟨x0_0, x0_1, x0_2, x0_3, x0_4, x0_5, x0_6, x0_7, x0_8, x0_9, x0_10, x0_11, m0, m1⟩ | go_keep) (fun hHeld => ?_)
    clear hK K
    try simp only [Act.put, List.getElem_toArray, List.getElem_cons_succ, List.getElem_cons_zero, List.setIfInBounds_toArray, List.set_cons_zero, List.set_cons_succ]
    refine wpAnyH_ready (rs := [8]) (by kernel_rfl) (by simp) ?_
    refine (AllReadyH.cons rfl (fun K hK => ?_) AllReadyH.nil)
    go_simp
    refine (or_any (Hs.led h x) (Hs.call h f t) _ _ FL0.out.c0 FL0.out.c1).mono ?_
    rintro e w_ ⟨rfl, hw⟩
    obtain rfl := hw.symm
    clear hw
    try dsimp only
    refine hK.out _ _ (by (try dsimp only); first | exact ⟨x0_0, x0_1, x0_2, x0_3, x0_4, x0_5, x0_6, x0_7, x0_8, x0_9, x0_10, x0_11, m0, m1⟩ | go_keep) (fun hHeld => ?_)
    clear hK K
    try simp only [Act.put, List.getElem_toArray, List.getElem_cons_succ, List.getElem_cons_zero, List.setIfInBounds_toArray, List.set_cons_zero, List.set_cons_succ]
    refine tkz 9 rfl ?_
    refine wpAnyH_done (by kernel_rfl) ?_ _
    go_upto_region 6 with (go_at_call 18; refine (isCar_any _ _ _).mono ?_; rw [kc]; rintro e w' ⟨rfl, hw⟩; obtain rfl := hw.symm; clear hw)
    obtain ⟨w2, hW_⟩ : ∃ w2, w2 = v_12 := ⟨_, rfl⟩
    have F0 : Hid (HAt w2 w.heap.size h) := by rw [hW_]; exact F0.out
    have F1 : Hid (LW w2 (w.heap.size + 1) x.nx (.slice aa x.ps.length cap)) := by rw [hW_]; exact F1.out
    have F2 : Hid (RL w2 (w.heap.size + 2)) := by rw [hW_]; exact F2.out
    have FB : Hid (Below w.heap.size w w2) := by rw [hW_]; exact FB.out
    rw [← hW_]
    clear hW_
    have F0 : Hid (HAt w2.drew w.heap.size h) := F0.out.below (Below.refl _ _).drew F0.out.lt
    have F1 : Hid (LW w2.drew (w.heap.size + 1) x.nx (.slice aa x.ps.length cap)) := F1.out.below (Below.refl _ _).drew F1.out.lt
    have F2 : Hid (RL w2.drew (w.heap.size + 2)) := F2.out.below (Below.refl _ _).drew F2.out.lt
    have FB : Hid (Below w.heap.size w w2.drew) := FB.out.drew
    have m1 := F1.out.c1
    have mq := F0.out.c11
    refine wp_region_held_drew (S := (fun w'' => w''.cell? ⟨(w.heap.size + 1), 1, none⟩ = some (.slice aa x.ps.length cap) ∧ w''.cell? ⟨w.heap.size, 11, none⟩ = some (.int .i64 h.qu))) (by kernel_rfl) (by (try dsimp only); first | exact ⟨m1, mq⟩ | go_keep) (fun hHeld => ?_)
    obtain ⟨v_13, hw1⟩ : ∃ v_13, v_13 = w2.drew := ⟨_, rfl⟩
    have F0 : Hid (HAt v_13 w.heap.size h) := by rw [hw1]; exact F0.out
    have F1 : Hid (LW v_13 (w.heap.size + 1) x.nx (.slice aa x.ps.length cap)) := by rw [hw1]; exact F1.out
    have F2 : Hid (RL v_13 (w.heap.size + 2)) := by rw [hw1]; exact F2.out
    have FB : Hid (Below w.heap.size w v_13) := by rw [hw1]; exact FB.out
    rw [← hw1] at hHeld ⊢
    clear hw1
    have m1 := F1.out.c1
    have mq := F0.out.c11
    refine tkz 0 rfl ?_
    refine tkz 1 rfl ?_
    refine tkz 5 rfl ?_
    refine tkz 6 rfl ?_
    refine wpAnyH_ready (rs := [2]) (by kernel_rfl) (by simp) ?_
    refine (AllReadyH.cons rfl (fun K hK => ?_) AllReadyH.nil)
    go_simp
    refine (countStates_any x.ps aa cap hl HS.out _ ((HP.out.below FB.out (Nat.le_refl _)).mono FB.out.size)).mono ?_
    rintro e v_14 ⟨gc, rfl, ho, hb⟩
    have F0 : Hid (HAt v_14 w.heap.size h) := F0.out.below hb F0.out.lt
    have F1 : Hid (LW v_14 (w.heap.size + 1) x.nx (.slice aa x.ps.length cap)) := F1.out.below hb F1.out.lt
    have F2 : Hid (RL v_14 (w.heap.size + 2)) := F2.out.below hb F2.out.lt
    have FB : Hid (Below w.heap.size w v_14) := FB.out.trans (hb.mono FB.out.size)
    clear hb
    have m1 := F1.out.c1
    have mq := F0.out.c11
    have y0 := ho.cell (i := 0) rfl
    clear ho
    try dsimp only
    refine hK.out _ _ (by (try dsimp only); first | exact ⟨m1, mq⟩ | go_keep) (fun hHeld => ?_)
    clear hK K
    try simp only [Act.put, List.getElem_toArray, List.getElem_cons_succ, List.getElem_cons_zero, List.setIfInBounds_toArray, List.set_cons_zero, List.set_cons_succ]
    refine tkz 3 rfl ?_
    refine wpAnyH_ready (rs := [4]) (by kernel_rfl) (by simp) ?_
    refine (AllReadyH.cons rfl (fun K hK => ?_) AllReadyH.nil)
    go_simp
    refine hK.out _ _ (by (try dsimp only); first | exact ⟨m1, mq⟩ | go_keep) (fun hHeld => ?_)
    clear hK K
    try simp only [Act.put, List.getElem_toArray, List.getElem_cons_succ, List.getElem_cons_zero, List.setIfInBounds_toArray, List.set_cons_zero, List.set_cons_succ]
    refine tkz 7 rfl ?_
    refine wpAnyH_done (by kernel_rfl) ?_ _
    go_upto_region 7 with fail
    obtain ⟨w3, hW_⟩ : ∃ w3, w3 = v_14 := ⟨_, rfl⟩
    have F0 : Hid (HAt w3 w.heap.size h) := by rw [hW_]; exact F0.out
    have F1 : Hid (LW w3 (w.heap.size + 1) x.nx (.slice aa x.ps.length cap)) := by rw [hW_]; exact F1.out
    have F2 : Hid (RL w3 (w.heap.size + 2)) := by rw [hW_]; exact F2.out
    have FB : Hid (Below w.heap.size w w3) := by rw [hW_]; exact FB.out
    rw [← hW_]
    clear hW_
    obtain ⟨r0, r1, r2, r3, s0, s1, s2, s3⟩ := F2.out
    go_wp2_with fail
    exact bodyPost_ret (v := .agg #[.int .i64 7, .int .i64 0, .int .i64 0, .slice none 0 0]) (by simp [results, Try.results6, go_sem, r0, r1, r2, r3]) rfl ⟨_, rfl, own_nil _ _, (((FB.out.setCell (by simp <;> omega) _).setCell (by simp <;> omega) _).setCell (by simp <;> omega) _).setCell (by simp <;> omega) _⟩
  rw [if_neg kq] at hK
  have bq : decide (h.qu ≤ (cnt 0 (-1) 0 x.ps : Int)) = false := decide_eq_false kq
  clear kq
  by_cases km : x.nx = 1000000000000000
  · rw [if_pos (Or.inl km)] at hK
    subst hK
    rw [if_neg (by omega), if_neg (by omega)]
    have bm : (x.nx == 1000000000000000) = true := by simpa using km
    clear hled hcall km
    go_enter Try.func6, Try.ntmps6
    go_upto_region 1 with fail
    obtain ⟨W0, hW0⟩ : ∃ W0, W0 = (((w.alloc (.cells #[.int .i64 h.fl, .int .i64 h.gp, .int .i64 h.ln, .int .i64 h.rf, .int .i64 h.sp, .int .i64 h.pu, .int .i64 h.br, .int .i64 h.dr, .int .i64 h.lv, .int .i64 h.dO, .int .i64 h.ld, .int .i64 h.qu] 25)).alloc (.cells #[.int .i64 x.nx, .slice aa x.ps.length cap] 28)).alloc (.cells #[.int .i64 0, .int .i64 0, .int .i64 0, .slice none 0 0] 32)) := ⟨_, rfl⟩
    have F0 : Hid (HAt W0 w.heap.size h) := by rw [hW0]; exact ((HAt.at_ w h _ _ rfl).alloc _).alloc _
    have F1 : Hid (LW W0 (w.heap.size + 1) x.nx (.slice aa x.ps.length cap)) := by rw [hW0]; exact (LW.at_ _ x.nx (.slice aa x.ps.length cap) _ _ (by simp)).alloc _
    have F2 : Hid (RL W0 (w.heap.size + 2)) := by rw [hW0]; exact RL.at_ _ _ _ (by simp)
    have FB : Hid (Below w.heap.size w W0) := by rw [hW0]; exact (((Below.refl _ _).alloc (Nat.le_refl _) _).alloc (by simp) _).alloc (by simp; omega) _
    rw [← hW0]
    clear hW0
    have F0 : Hid (HAt W0.drew w.heap.size h) := F0.out.below (Below.refl _ _).drew F0.out.lt
    have F1 : Hid (LW W0.drew (w.heap.size + 1) x.nx (.slice aa x.ps.length cap)) := F1.out.below (Below.refl _ _).drew F1.out.lt
    have F2 : Hid (RL W0.drew (w.heap.size + 2)) := F2.out.below (Below.refl _ _).drew F2.out.lt
    have FB : Hid (Below w.heap.size w W0.drew) := FB.out.drew
    obtain ⟨x0_0, x0_1, x0_2, x0_3, x0_4, x0_5, x0_6, x0_7, x0_8, x0_9, x0_10, x0_11⟩ := F0.out
    have m0 := F1.out.c0
    have m1 := F1.out.c1
    refine wp_region_held_drew (S := (fun w'' => w''.cell? ⟨w.heap.size, 0, none⟩ = some (.int .i64 h.fl) ∧ w''.cell? ⟨w.heap.size, 1, none⟩ = some (.int .i64 h.gp) ∧ w''.cell? ⟨w.heap.size, 2, none⟩ = some (.int .i64 h.ln) ∧ w''.cell? ⟨w.heap.size, 3, none⟩ = some (.int .i64 h.rf) ∧ w''.cell? ⟨w.heap.size, 4, none⟩ = some (.int .i64 h.sp) ∧ w''.cell? ⟨w.heap.size, 5, none⟩ = some (.int .i64 h.pu) ∧ w''.cell? ⟨w.heap.size, 6, none⟩ = some (.int .i64 h.br) ∧ w''.cell? ⟨w.heap.size, 7, none⟩ = some (.int .i64 h.dr) ∧ w''.cell? ⟨w.heap.size, 8, none⟩ = some (.int .i64 h.lv) ∧ w''.cell? ⟨w.heap.size, 9, none⟩ = some (.int .i64 h.dO) ∧ w''.cell? ⟨w.heap.size, 10, none⟩ = some (.int .i64 h.ld) ∧ w''.cell? ⟨w.heap.size, 11, none⟩ = some (.int .i64 h.qu) ∧ w''.cell? ⟨(w.heap.size + 1), 0, none⟩ = some (.int .i64 x.nx) ∧ w''.cell? ⟨(w.heap.size + 1), 1, none⟩ = some (.slice aa x.ps.length cap))) (by kernel_rfl) (by (try dsimp only); first | exact ⟨x0_0, x0_1, x0_2, x0_3, x0_4, x0_5, x0_6, x0_7, x0_8, x0_9, x0_10, x0_11, m0, m1⟩ | go_keep) (fun hHeld => ?_)
    obtain ⟨v_15, hw1⟩ : ∃ v_15, v_15 = W0.drew := ⟨_, rfl⟩
    have F0 : Hid (HAt v_15 w.heap.size h) := by rw [hw1]; exact F0.out
    have F1 : Hid (LW v_15 (w.heap.size + 1) x.nx (.slice aa x.ps.length cap)) := by rw [hw1]; exact F1.out
    have F2 : Hid (RL v_15 (w.heap.size + 2)) := by rw [hw1]; exact F2.out
    have FB : Hid (Below w.heap.size w v_15) := by rw [hw1]; exact FB.out
    rw [← hw1] at hHeld ⊢
    clear hw1
    obtain ⟨x0_0, x0_1, x0_2, x0_3, x0_4, x0_5, x0_6, x0_7, x0_8, x0_9, x0_10, x0_11⟩ := F0.out
    have m0 := F1.out.c0
    have m1 := F1.out.c1
    refine tkz 0 rfl ?_
    refine tkz 1 rfl ?_
    refine tkz 3 rfl ?_
    refine tkz 4 rfl ?_
    refine tkz 5 rfl ?_
    refine wpAnyH_ready (rs := [2]) (by kernel_rfl) (by simp) ?_
    refine (AllReadyH.cons rfl (fun K hK => ?_) AllReadyH.nil)
    go_simp
    refine (implLedgerFault_any h x aa cap hl _ ((HP.out.below FB.out (Nat.le_refl _)).mono FB.out.size)).mono ?_
    rintro e v_16 ⟨rfl, hb⟩
    have F0 : Hid (HAt v_16 w.heap.size h) := F0.out.below hb F0.out.lt
    have F1 : Hid (LW v_16 (w.heap.size + 1) x.nx (.slice aa x.ps.length cap)) := F1.out.below hb F1.out.lt
    have F2 : Hid (RL v_16 (w.heap.size + 2)) := F2.out.below hb F2.out.lt
    have FB : Hid (Below w.heap.size w v_16) := FB.out.trans (hb.mono FB.out.size)
    clear hb
    obtain ⟨x0_0, x0_1, x0_2, x0_3, x0_4, x0_5, x0_6, x0_7, x0_8, x0_9, x0_10, x0_11⟩ := F0.out
    have m0 := F1.out.c0
    have m1 := F1.out.c1
    try dsimp only
    refine hK.out _ _ (by (try dsimp only); first | exact ⟨x0_0, x0_1, x0_2, x0_3, x0_4, x0_5, x0_6, x0_7, x0_8, x0_9, x0_10, x0_11, m0, m1⟩ | go_keep) (fun hHeld => ?_)
    clear hK K
    try simp only [Act.put, List.getElem_toArray, List.getElem_cons_succ, List.getElem_cons_zero, List.setIfInBounds_toArray, List.set_cons_zero, List.set_cons_succ]
    refine wpAnyH_ready (rs := [6]) (by kernel_rfl) (by simp) ?_
    refine (AllReadyH.cons rfl (fun K hK => ?_) AllReadyH.nil)
    go_simp
    refine (implCallFault_any h f t _).mono ?_
    rintro e v_17 ⟨rfl, hb⟩
    have F0 : Hid (HAt v_17 w.heap.size h) := F0.out.below hb F0.out.lt
    have F1 : Hid (LW v_17 (w.heap.size + 1) x.nx (.slice aa x.ps.length cap)) := F1.out.below hb F1.out.lt
    have F2 : Hid (RL v_17 (w.heap.size + 2)) := F2.out.below hb F2.out.lt
    have FB : Hid (Below w.heap.size w v_17) := FB.out.trans (hb.mono FB.out.size)
    clear hb
    obtain ⟨x0_0, x0_1, x0_2, x0_3, x0_4, x0_5, x0_6, x0_7, x0_8, x0_9, x0_10, x0_11⟩ := F0.out
    have m0 := F1.out.c0
    have m1 := F1.out.c1
    try dsimp only
    refine hK.out _ _ (by (try dsimp only); first | exact ⟨x0_0, x0_1, x0_2, x0_3, x0_4, x0_5, x0_6, x0_7, x0_8, x0_9, x0_10, x0_11, m0, m1⟩ | go_keep) (fun hHeld => ?_)
    clear hK K
    try simp only [Act.put, List.getElem_toArray, List.getElem_cons_succ, List.getElem_cons_zero, List.setIfInBounds_toArray, List.set_cons_zero, List.set_cons_succ]
    refine wpAnyH_ready (rs := [7]) (by kernel_rfl) (by simp) ?_
    refine (AllReadyH.cons rfl (fun K hK => ?_) AllReadyH.nil)
    go_simp
    obtain ⟨lb0, hbb⟩ : ∃ lb0, lb0 = v_17.heap.size := ⟨_, rfl⟩
    obtain ⟨v_18, hw2⟩ : ∃ v_18, v_18 = v_17.alloc (.cells #[.int .i64 (Hs.led h x), .int .i64 (Hs.call h f t)] 2) := ⟨_, rfl⟩
    have nlb0_0 := F0.out.lt
    rw [← hbb] at nlb0_0
    have nlb0_1 := F1.out.lt
    rw [← hbb] at nlb0_1
    have nlb0_2 := F2.out.lt
    rw [← hbb] at nlb0_2
    have FL0 : Hid (Pr2 v_18 lb0 (Hs.led h x) (Hs.call h f t)) := by rw [hw2]; exact Pr2.at_ v_17 _ _ _ lb0 hbb
    have F0 : Hid (HAt v_18 w.heap.size h) := by rw [hw2]; exact F0.out.alloc _
    have F1 : Hid (LW v_18 (w.heap.size + 1) x.nx (.slice aa x.ps.length cap)) := by rw [hw2]; exact F1.out.alloc _
    have F2 : Hid (RL v_18 (w.heap.size + 2)) := by rw [hw2]; exact F2.out.alloc _
    have FB : Hid (Below w.heap.size w v_18) := by rw [hw2]; exact FB.out.alloc FB.out.size _
    rw [← hw2, ← hbb]
    clear hbb hw2
    obtain ⟨x0_0, x0_1, x0_2, x0_3, x0_4, x0_5, x0_6, x0_7, x0_8, x0_9, x0_10, x0_11⟩ := F0.out
    have m0 := F1.out.c0
    have m1 := F1.out.c1
    refine hK.out _ _ (by (try dsimp only); first | exact ⟨x0_0, x0_1, x0_2, x0_3, x0_4, x0_5, x0_6, x0_7, x0_8, x0_9, x0_10, x0_11, m0, m1⟩ | go_keep) (fun hHeld => ?_)
    clear hK K
    try simp only [Act.put, List.getElem_toArray, List.getElem_cons_succ, List.getElem_cons_zero, List.setIfInBounds_toArray, List.set_cons_zero, List.set_cons_succ]
    refine wpAnyH_ready (rs := [8]) (by kernel_rfl) (by simp) ?_
    refine (AllReadyH.cons rfl (fun K hK => ?_) AllReadyH.nil)
    go_simp
    refine (or_any (Hs.led h x) (Hs.call h f t) _ _ FL0.out.c0 FL0.out.c1).mono ?_
    rintro e w_ ⟨rfl, hw⟩
    obtain rfl := hw.symm
    clear hw
    try dsimp only
    refine hK.out _ _ (by (try dsimp only); first | exact ⟨x0_0, x0_1, x0_2, x0_3, x0_4, x0_5, x0_6, x0_7, x0_8, x0_9, x0_10, x0_11, m0, m1⟩ | go_keep) (fun hHeld => ?_)
    clear hK K
    try simp only [Act.put, List.getElem_toArray, List.getElem_cons_succ, List.getElem_cons_zero, List.setIfInBounds_toArray, List.set_cons_zero, List.set_cons_succ]
    refine tkz 9 rfl ?_
    refine wpAnyH_done (by kernel_rfl) ?_ _
    go_upto_region 6 with (go_at_call 18; refine (isCar_any _ _ _).mono ?_; rw [kc]; rintro e w' ⟨rfl, hw⟩; obtain rfl := hw.symm; clear hw)
    obtain ⟨w2, hW_⟩ : ∃ w2, w2 = v_18 := ⟨_, rfl⟩
    have F0 : Hid (HAt w2 w.heap.size h) := by rw [hW_]; exact F0.out
    have F1 : Hid (LW w2 (w.heap.size + 1) x.nx (.slice aa x.ps.length cap)) := by rw [hW_]; exact F1.out
    have F2 : Hid (RL w2 (w.heap.size + 2)) := by rw [hW_]; exact F2.out
    have FB : Hid (Below w.heap.size w w2) := by rw [hW_]; exact FB.out
    rw [← hW_]
    clear hW_
    have F0 : Hid (HAt w2.drew w.heap.size h) := F0.out.below (Below.refl _ _).drew F0.out.lt
    have F1 : Hid (LW w2.drew (w.heap.size + 1) x.nx (.slice aa x.ps.length cap)) := F1.out.below (Below.refl _ _).drew F1.out.lt
    have F2 : Hid (RL w2.drew (w.heap.size + 2)) := F2.out.below (Below.refl _ _).drew F2.out.lt
    have FB : Hid (Below w.heap.size w w2.drew) := FB.out.drew
    have m1 := F1.out.c1
    have mq := F0.out.c11
    refine wp_region_held_drew (S := (fun w'' => w''.cell? ⟨(w.heap.size + 1), 1, none⟩ = some (.slice aa x.ps.length cap) ∧ w''.cell? ⟨w.heap.size, 11, none⟩ = some (.int .i64 h.qu))) (by kernel_rfl) (by (try dsimp only); first | exact ⟨m1, mq⟩ | go_keep) (fun hHeld => ?_)
    obtain ⟨v_19, hw1⟩ : ∃ v_19, v_19 = w2.drew := ⟨_, rfl⟩
    have F0 : Hid (HAt v_19 w.heap.size h) := by rw [hw1]; exact F0.out
    have F1 : Hid (LW v_19 (w.heap.size + 1) x.nx (.slice aa x.ps.length cap)) := by rw [hw1]; exact F1.out
    have F2 : Hid (RL v_19 (w.heap.size + 2)) := by rw [hw1]; exact F2.out
    have FB : Hid (Below w.heap.size w v_19) := by rw [hw1]; exact FB.out
    rw [← hw1] at hHeld ⊢
    clear hw1
    have m1 := F1.out.c1
    have mq := F0.out.c11
    refine tkz 0 rfl ?_
    refine tkz 1 rfl ?_
    refine tkz 5 rfl ?_
    refine tkz 6 rfl ?_
    refine wpAnyH_ready (rs := [2]) (by kernel_rfl) (by simp) ?_
    refine (AllReadyH.cons rfl (fun K hK => ?_) AllReadyH.nil)
    go_simp
    refine (countStates_any x.ps aa cap hl HS.out _ ((HP.out.below FB.out (Nat.le_refl _)).mono FB.out.size)).mono ?_
    rintro e v_20 ⟨gc, rfl, ho, hb⟩
    have F0 : Hid (HAt v_20 w.heap.size h) := F0.out.below hb F0.out.lt
    have F1 : Hid (LW v_20 (w.heap.size + 1) x.nx (.slice aa x.ps.length cap)) := F1.out.below hb F1.out.lt
    have F2 : Hid (RL v_20 (w.heap.size + 2)) := F2.out.below hb F2.out.lt
    have FB : Hid (Below w.heap.size w v_20) := FB.out.trans (hb.mono FB.out.size)
    clear hb
    have m1 := F1.out.c1
    have mq := F0.out.c11
    have y0 := ho.cell (i := 0) rfl
    clear ho
    try dsimp only
    refine hK.out _ _ (by (try dsimp only); first | exact ⟨m1, mq⟩ | go_keep) (fun hHeld => ?_)
    clear hK K
    try simp only [Act.put, List.getElem_toArray, List.getElem_cons_succ, List.getElem_cons_zero, List.setIfInBounds_toArray, List.set_cons_zero, List.set_cons_succ]
    refine tkz 3 rfl ?_
    refine wpAnyH_ready (rs := [4]) (by kernel_rfl) (by simp) ?_
    refine (AllReadyH.cons rfl (fun K hK => ?_) AllReadyH.nil)
    go_simp
    refine hK.out _ _ (by (try dsimp only); first | exact ⟨m1, mq⟩ | go_keep) (fun hHeld => ?_)
    clear hK K
    try simp only [Act.put, List.getElem_toArray, List.getElem_cons_succ, List.getElem_cons_zero, List.setIfInBounds_toArray, List.set_cons_zero, List.set_cons_succ]
    refine tkz 7 rfl ?_
    refine wpAnyH_done (by kernel_rfl) ?_ _
    go_upto_region 8 with fail
    obtain ⟨w3, hW_⟩ : ∃ w3, w3 = v_20 := ⟨_, rfl⟩
    have F0 : Hid (HAt w3 w.heap.size h) := by rw [hW_]; exact F0.out
    have F1 : Hid (LW w3 (w.heap.size + 1) x.nx (.slice aa x.ps.length cap)) := by rw [hW_]; exact F1.out
    have F2 : Hid (RL w3 (w.heap.size + 2)) := by rw [hW_]; exact F2.out
    have FB : Hid (Below w.heap.size w w3) := by rw [hW_]; exact FB.out
    rw [← hW_]
    clear hW_
    obtain ⟨x0_0, x0_1, x0_2, x0_3, x0_4, x0_5, x0_6, x0_7, x0_8, x0_9, x0_10, x0_11⟩ := F0.out
    obtain ⟨x1_0, x1_1, y1_0, y1_1⟩ := F1.out
    go_upto_region 9 with fail
    obtain ⟨r0, r1, r2, r3, s0, s1, s2, s3⟩ := F2.out
    go_wp2_with fail
    exact bodyPost_ret (v := .agg #[.int .i64 2, .int .i64 0, .int .i64 0, .slice none 0 0]) (by simp [results, Try.results6, go_sem, r0, r1, r2, r3]) rfl ⟨_, rfl, own_nil _ _, (((FB.out.setCell (by simp <;> omega) _).setCell (by simp <;> omega) _).setCell (by simp <;> omega) _).setCell (by simp <;> omega) _⟩
  have bm : (x.nx == 1000000000000000) = false := by simpa using km
  cases kf : decide (x.ps.length = 60)
  · have KF : Hid (decide (x.ps.length = 60) = false) := kf
    have c60 : x.ps.length ≠ 60 := by simpa using kf
    rw [if_neg (by omega)] at hK
    subst hK
    rw [if_pos rfl, if_pos rfl]
    have hfr : x.ps.length = 60 → fi x.ps < 60 := fun e => absurd e c60
    have hln := freeL_len x.ps hlen hfr
    have hNb : (freeL x.ps).length ≤ 60 := by rw [hln]; split <;> omega
    clear hled hcall km hln
    go_enter Try.func6, Try.ntmps6
    go_upto_region 1 with fail
    obtain ⟨W0, hW0⟩ : ∃ W0, W0 = (((w.alloc (.cells #[.int .i64 h.fl, .int .i64 h.gp, .int .i64 h.ln, .int .i64 h.rf, .int .i64 h.sp, .int .i64 h.pu, .int .i64 h.br, .int .i64 h.dr, .int .i64 h.lv, .int .i64 h.dO, .int .i64 h.ld, .int .i64 h.qu] 25)).alloc (.cells #[.int .i64 x.nx, .slice aa x.ps.length cap] 28)).alloc (.cells #[.int .i64 0, .int .i64 0, .int .i64 0, .slice none 0 0] 32)) := ⟨_, rfl⟩
    have F0 : Hid (HAt W0 w.heap.size h) := by rw [hW0]; exact ((HAt.at_ w h _ _ rfl).alloc _).alloc _
    have F1 : Hid (LW W0 (w.heap.size + 1) x.nx (.slice aa x.ps.length cap)) := by rw [hW0]; exact (LW.at_ _ x.nx (.slice aa x.ps.length cap) _ _ (by simp)).alloc _
    have F2 : Hid (RL W0 (w.heap.size + 2)) := by rw [hW0]; exact RL.at_ _ _ _ (by simp)
    have FB : Hid (Below w.heap.size w W0) := by rw [hW0]; exact (((Below.refl _ _).alloc (Nat.le_refl _) _).alloc (by simp) _).alloc (by simp; omega) _
    rw [← hW0]
    clear hW0
    have F0 : Hid (HAt W0.drew w.heap.size h) := F0.out.below (Below.refl _ _).drew F0.out.lt
    have F1 : Hid (LW W0.drew (w.heap.size + 1) x.nx (.slice aa x.ps.length cap)) := F1.out.below (Below.refl _ _).drew F1.out.lt
    have F2 : Hid (RL W0.drew (w.heap.size + 2)) := F2.out.below (Below.refl _ _).drew F2.out.lt
    have FB : Hid (Below w.heap.size w W0.drew) := FB.out.drew
    obtain ⟨x0_0, x0_1, x0_2, x0_3, x0_4, x0_5, x0_6, x0_7, x0_8, x0_9, x0_10, x0_11⟩ := F0.out
    have m0 := F1.out.c0
    have m1 := F1.out.c1
    refine wp_region_held_drew (S := (fun w'' => w''.cell? ⟨w.heap.size, 0, none⟩ = some (.int .i64 h.fl) ∧ w''.cell? ⟨w.heap.size, 1, none⟩ = some (.int .i64 h.gp) ∧ w''.cell? ⟨w.heap.size, 2, none⟩ = some (.int .i64 h.ln) ∧ w''.cell? ⟨w.heap.size, 3, none⟩ = some (.int .i64 h.rf) ∧ w''.cell? ⟨w.heap.size, 4, none⟩ = some (.int .i64 h.sp) ∧ w''.cell? ⟨w.heap.size, 5, none⟩ = some (.int .i64 h.pu) ∧ w''.cell? ⟨w.heap.size, 6, none⟩ = some (.int .i64 h.br) ∧ w''.cell? ⟨w.heap.size, 7, none⟩ = some (.int .i64 h.dr) ∧ w''.cell? ⟨w.heap.size, 8, none⟩ = some (.int .i64 h.lv) ∧ w''.cell? ⟨w.heap.size, 9, none⟩ = some (.int .i64 h.dO) ∧ w''.cell? ⟨w.heap.size, 10, none⟩ = some (.int .i64 h.ld) ∧ w''.cell? ⟨w.heap.size, 11, none⟩ = some (.int .i64 h.qu) ∧ w''.cell? ⟨(w.heap.size + 1), 0, none⟩ = some (.int .i64 x.nx) ∧ w''.cell? ⟨(w.heap.size + 1), 1, none⟩ = some (.slice aa x.ps.length cap))) (by kernel_rfl) (by (try dsimp only); first | exact ⟨x0_0, x0_1, x0_2, x0_3, x0_4, x0_5, x0_6, x0_7, x0_8, x0_9, x0_10, x0_11, m0, m1⟩ | go_keep) (fun hHeld => ?_)
    obtain ⟨v_21, hw1⟩ : ∃ v_21, v_21 = W0.drew := ⟨_, rfl⟩
    have F0 : Hid (HAt v_21 w.heap.size h) := by rw [hw1]; exact F0.out
    have F1 : Hid (LW v_21 (w.heap.size + 1) x.nx (.slice aa x.ps.length cap)) := by rw [hw1]; exact F1.out
    have F2 : Hid (RL v_21 (w.heap.size + 2)) := by rw [hw1]; exact F2.out
    have FB : Hid (Below w.heap.size w v_21) := by rw [hw1]; exact FB.out
    rw [← hw1] at hHeld ⊢
    clear hw1
    obtain ⟨x0_0, x0_1, x0_2, x0_3, x0_4, x0_5, x0_6, x0_7, x0_8, x0_9, x0_10, x0_11⟩ := F0.out
    have m0 := F1.out.c0
    have m1 := F1.out.c1
    refine tkz 0 rfl ?_
    refine tkz 1 rfl ?_
    refine tkz 3 rfl ?_
    refine tkz 4 rfl ?_
    refine tkz 5 rfl ?_
    refine wpAnyH_ready (rs := [2]) (by kernel_rfl) (by simp) ?_
    refine (AllReadyH.cons rfl (fun K hK => ?_) AllReadyH.nil)
    go_simp
    refine (implLedgerFault_any h x aa cap hl _ ((HP.out.below FB.out (Nat.le_refl _)).mono FB.out.size)).mono ?_
    rintro e v_22 ⟨rfl, hb⟩
    have F0 : Hid (HAt v_22 w.heap.size h) := F0.out.below hb F0.out.lt
    have F1 : Hid (LW v_22 (w.heap.size + 1) x.nx (.slice aa x.ps.length cap)) := F1.out.below hb F1.out.lt
    have F2 : Hid (RL v_22 (w.heap.size + 2)) := F2.out.below hb F2.out.lt
    have FB : Hid (Below w.heap.size w v_22) := FB.out.trans (hb.mono FB.out.size)
    clear hb
    obtain ⟨x0_0, x0_1, x0_2, x0_3, x0_4, x0_5, x0_6, x0_7, x0_8, x0_9, x0_10, x0_11⟩ := F0.out
    have m0 := F1.out.c0
    have m1 := F1.out.c1
    try dsimp only
    refine hK.out _ _ (by (try dsimp only); first | exact ⟨x0_0, x0_1, x0_2, x0_3, x0_4, x0_5, x0_6, x0_7, x0_8, x0_9, x0_10, x0_11, m0, m1⟩ | go_keep) (fun hHeld => ?_)
    clear hK K
    try simp only [Act.put, List.getElem_toArray, List.getElem_cons_succ, List.getElem_cons_zero, List.setIfInBounds_toArray, List.set_cons_zero, List.set_cons_succ]
    refine wpAnyH_ready (rs := [6]) (by kernel_rfl) (by simp) ?_
    refine (AllReadyH.cons rfl (fun K hK => ?_) AllReadyH.nil)
    go_simp
    refine (implCallFault_any h f t _).mono ?_
    rintro e v_23 ⟨rfl, hb⟩
    have F0 : Hid (HAt v_23 w.heap.size h) := F0.out.below hb F0.out.lt
    have F1 : Hid (LW v_23 (w.heap.size + 1) x.nx (.slice aa x.ps.length cap)) := F1.out.below hb F1.out.lt
    have F2 : Hid (RL v_23 (w.heap.size + 2)) := F2.out.below hb F2.out.lt
    have FB : Hid (Below w.heap.size w v_23) := FB.out.trans (hb.mono FB.out.size)
    clear hb
    obtain ⟨x0_0, x0_1, x0_2, x0_3, x0_4, x0_5, x0_6, x0_7, x0_8, x0_9, x0_10, x0_11⟩ := F0.out
    have m0 := F1.out.c0
    have m1 := F1.out.c1
    try dsimp only
    refine hK.out _ _ (by (try dsimp only); first | exact ⟨x0_0, x0_1, x0_2, x0_3, x0_4, x0_5, x0_6, x0_7, x0_8, x0_9, x0_10, x0_11, m0, m1⟩ | go_keep) (fun hHeld => ?_)
    clear hK K
    try simp only [Act.put, List.getElem_toArray, List.getElem_cons_succ, List.getElem_cons_zero, List.setIfInBounds_toArray, List.set_cons_zero, List.set_cons_succ]
    refine wpAnyH_ready (rs := [7]) (by kernel_rfl) (by simp) ?_
    refine (AllReadyH.cons rfl (fun K hK => ?_) AllReadyH.nil)
    go_simp
    obtain ⟨lb0, hbb⟩ : ∃ lb0, lb0 = v_23.heap.size := ⟨_, rfl⟩
    obtain ⟨v_24, hw2⟩ : ∃ v_24, v_24 = v_23.alloc (.cells #[.int .i64 (Hs.led h x), .int .i64 (Hs.call h f t)] 2) := ⟨_, rfl⟩
    have nlb0_0 := F0.out.lt
    rw [← hbb] at nlb0_0
    have nlb0_1 := F1.out.lt
    rw [← hbb] at nlb0_1
    have nlb0_2 := F2.out.lt
    rw [← hbb] at nlb0_2
    have FL0 : Hid (Pr2 v_24 lb0 (Hs.led h x) (Hs.call h f t)) := by rw [hw2]; exact Pr2.at_ v_23 _ _ _ lb0 hbb
    have F0 : Hid (HAt v_24 w.heap.size h) := by rw [hw2]; exact F0.out.alloc _
    have F1 : Hid (LW v_24 (w.heap.size + 1) x.nx (.slice aa x.ps.length cap)) := by rw [hw2]; exact F1.out.alloc _
    have F2 : Hid (RL v_24 (w.heap.size + 2)) := by rw [hw2]; exact F2.out.alloc _
    have FB : Hid (Below w.heap.size w v_24) := by rw [hw2]; exact FB.out.alloc FB.out.size _
    rw [← hw2, ← hbb]
    clear hbb hw2
    obtain ⟨x0_0, x0_1, x0_2, x0_3, x0_4, x0_5, x0_6, x0_7, x0_8, x0_9, x0_10, x0_11⟩ := F0.out
    have m0 := F1.out.c0
    have m1 := F1.out.c1
    refine hK.out _ _ (by (try dsimp only); first | exact ⟨x0_0, x0_1, x0_2, x0_3, x0_4, x0_5, x0_6, x0_7, x0_8, x0_9, x0_10, x0_11, m0, m1⟩ | go_keep) (fun hHeld => ?_)
    clear hK K
    try simp only [Act.put, List.getElem_toArray, List.getElem_cons_succ, List.getElem_cons_zero, List.setIfInBounds_toArray, List.set_cons_zero, List.set_cons_succ]
    refine wpAnyH_ready (rs := [8]) (by kernel_rfl) (by simp) ?_
    refine (AllReadyH.cons rfl (fun K hK => ?_) AllReadyH.nil)
    go_simp
    refine (or_any (Hs.led h x) (Hs.call h f t) _ _ FL0.out.c0 FL0.out.c1).mono ?_
    rintro e w_ ⟨rfl, hw⟩
    obtain rfl := hw.symm
    clear hw
    try dsimp only
    refine hK.out _ _ (by (try dsimp only); first | exact ⟨x0_0, x0_1, x0_2, x0_3, x0_4, x0_5, x0_6, x0_7, x0_8, x0_9, x0_10, x0_11, m0, m1⟩ | go_keep) (fun hHeld => ?_)
    clear hK K
    try simp only [Act.put, List.getElem_toArray, List.getElem_cons_succ, List.getElem_cons_zero, List.setIfInBounds_toArray, List.set_cons_zero, List.set_cons_succ]
    refine tkz 9 rfl ?_
    refine wpAnyH_done (by kernel_rfl) ?_ _
    go_upto_region 6 with (go_at_call 18; refine (isCar_any _ _ _).mono ?_; rw [kc]; rintro e w' ⟨rfl, hw⟩; obtain rfl := hw.symm; clear hw)
    obtain ⟨w2, hW_⟩ : ∃ w2, w2 = v_24 := ⟨_, rfl⟩
    have F0 : Hid (HAt w2 w.heap.size h) := by rw [hW_]; exact F0.out
    have F1 : Hid (LW w2 (w.heap.size + 1) x.nx (.slice aa x.ps.length cap)) := by rw [hW_]; exact F1.out
    have F2 : Hid (RL w2 (w.heap.size + 2)) := by rw [hW_]; exact F2.out
    have FB : Hid (Below w.heap.size w w2) := by rw [hW_]; exact FB.out
    rw [← hW_]
    clear hW_
    have F0 : Hid (HAt w2.drew w.heap.size h) := F0.out.below (Below.refl _ _).drew F0.out.lt
    have F1 : Hid (LW w2.drew (w.heap.size + 1) x.nx (.slice aa x.ps.length cap)) := F1.out.below (Below.refl _ _).drew F1.out.lt
    have F2 : Hid (RL w2.drew (w.heap.size + 2)) := F2.out.below (Below.refl _ _).drew F2.out.lt
    have FB : Hid (Below w.heap.size w w2.drew) := FB.out.drew
    have m1 := F1.out.c1
    have mq := F0.out.c11
    refine wp_region_held_drew (S := (fun w'' => w''.cell? ⟨(w.heap.size + 1), 1, none⟩ = some (.slice aa x.ps.length cap) ∧ w''.cell? ⟨w.heap.size, 11, none⟩ = some (.int .i64 h.qu))) (by kernel_rfl) (by (try dsimp only); first | exact ⟨m1, mq⟩ | go_keep) (fun hHeld => ?_)
    obtain ⟨v_25, hw1⟩ : ∃ v_25, v_25 = w2.drew := ⟨_, rfl⟩
    have F0 : Hid (HAt v_25 w.heap.size h) := by rw [hw1]; exact F0.out
    have F1 : Hid (LW v_25 (w.heap.size + 1) x.nx (.slice aa x.ps.length cap)) := by rw [hw1]; exact F1.out
    have F2 : Hid (RL v_25 (w.heap.size + 2)) := by rw [hw1]; exact F2.out
    have FB : Hid (Below w.heap.size w v_25) := by rw [hw1]; exact FB.out
    rw [← hw1] at hHeld ⊢
    clear hw1
    have m1 := F1.out.c1
    have mq := F0.out.c11
    refine tkz 0 rfl ?_
    refine tkz 1 rfl ?_
    refine tkz 5 rfl ?_
    refine tkz 6 rfl ?_
    refine wpAnyH_ready (rs := [2]) (by kernel_rfl) (by simp) ?_
    refine (AllReadyH.cons rfl (fun K hK => ?_) AllReadyH.nil)
    go_simp
    refine (countStates_any x.ps aa cap hl HS.out _ ((HP.out.below FB.out (Nat.le_refl _)).mono FB.out.size)).mono ?_
    rintro e v_26 ⟨gc, rfl, ho, hb⟩
    have F0 : Hid (HAt v_26 w.heap.size h) := F0.out.below hb F0.out.lt
    have F1 : Hid (LW v_26 (w.heap.size + 1) x.nx (.slice aa x.ps.length cap)) := F1.out.below hb F1.out.lt
    have F2 : Hid (RL v_26 (w.heap.size + 2)) := F2.out.below hb F2.out.lt
    have FB : Hid (Below w.heap.size w v_26) := FB.out.trans (hb.mono FB.out.size)
    clear hb
    have m1 := F1.out.c1
    have mq := F0.out.c11
    have y0 := ho.cell (i := 0) rfl
    clear ho
    try dsimp only
    refine hK.out _ _ (by (try dsimp only); first | exact ⟨m1, mq⟩ | go_keep) (fun hHeld => ?_)
    clear hK K
    try simp only [Act.put, List.getElem_toArray, List.getElem_cons_succ, List.getElem_cons_zero, List.setIfInBounds_toArray, List.set_cons_zero, List.set_cons_succ]
    refine tkz 3 rfl ?_
    refine wpAnyH_ready (rs := [4]) (by kernel_rfl) (by simp) ?_
    refine (AllReadyH.cons rfl (fun K hK => ?_) AllReadyH.nil)
    go_simp
    refine hK.out _ _ (by (try dsimp only); first | exact ⟨m1, mq⟩ | go_keep) (fun hHeld => ?_)
    clear hK K
    try simp only [Act.put, List.getElem_toArray, List.getElem_cons_succ, List.getElem_cons_zero, List.setIfInBounds_toArray, List.set_cons_zero, List.set_cons_succ]
    refine tkz 7 rfl ?_
    refine wpAnyH_done (by kernel_rfl) ?_ _
    go_upto_region 8 with fail
    obtain ⟨w3, hW_⟩ : ∃ w3, w3 = v_26 := ⟨_, rfl⟩
    have F0 : Hid (HAt w3 w.heap.size h) := by rw [hW_]; exact F0.out
    have F1 : Hid (LW w3 (w.heap.size + 1) x.nx (.slice aa x.ps.length cap)) := by rw [hW_]; exact F1.out
    have F2 : Hid (RL w3 (w.heap.size + 2)) := by rw [hW_]; exact F2.out
    have FB : Hid (Below w.heap.size w w3) := by rw [hW_]; exact FB.out
    rw [← hW_]
    clear hW_
    obtain ⟨x0_0, x0_1, x0_2, x0_3, x0_4, x0_5, x0_6, x0_7, x0_8, x0_9, x0_10, x0_11⟩ := F0.out
    obtain ⟨x1_0, x1_1, y1_0, y1_1⟩ := F1.out
    go_upto_region 11 with (first | (go_at_call 20; refine (isFull_any x.ps aa cap hl _).mono ?_; rw [KF.out]; rintro e w' ⟨rfl, hw⟩; obtain rfl := hw.symm; clear hw) | (go_at_call 21; refine (containsFunc_any x.ps aa cap hl _ ((HP.out.below FB.out (Nat.le_refl _)).mono FB.out.size)).mono ?_; rw [kt]; rintro e w4 ⟨rfl, hb⟩; have F0 : Hid (HAt w4 w.heap.size h) := F0.out.below hb F0.out.lt; have F1 : Hid (LW w4 (w.heap.size + 1) x.nx (.slice aa x.ps.length cap)) := F1.out.below hb F1.out.lt; have F2 : Hid (RL w4 (w.heap.size + 2)) := F2.out.below hb F2.out.lt; have FB : Hid (Below w.heap.size w w4) := FB.out.trans (hb.mono FB.out.size); clear hb; obtain ⟨x0_0, x0_1, x0_2, x0_3, x0_4, x0_5, x0_6, x0_7, x0_8, x0_9, x0_10, x0_11⟩ := F0.out; obtain ⟨x1_0, x1_1, y1_0, y1_1⟩ := F1.out) | (go_at_call 23; refine (withFreePlace_any x.ps aa cap hlen hfr _ ((HP.out.below FB.out (Nat.le_refl _)).mono FB.out.size)).mono ?_; rintro e w5 ⟨g, rfl, ho, hb⟩; have lr := F2.out.lt; have FO : Hid (Ow w5 w.heap.size g ((freeL x.ps).length + 1) ((freeL x.ps).length + 1) (freeL x.ps ++ [zeroP])) := ho.base FB.out.size; have ng : w.heap.size + 2 < g := (by have := ho.bl.1; omega); clear ho; have F0 : Hid (HAt w5 w.heap.size h) := F0.out.below hb F0.out.lt; have F1 : Hid (LW w5 (w.heap.size + 1) x.nx (.slice aa x.ps.length cap)) := F1.out.below hb F1.out.lt; have F2 : Hid (RL w5 (w.heap.size + 2)) := F2.out.below hb F2.out.lt; have FB : Hid (Below w.heap.size w w5) := FB.out.trans (hb.mono FB.out.size); clear hb; obtain ⟨x0_0, x0_1, x0_2, x0_3, x0_4, x0_5, x0_6, x0_7, x0_8, x0_9, x0_10, x0_11⟩ := F0.out; obtain ⟨x1_0, x1_1, y1_0, y1_1⟩ := F1.out))
    have hz7 := free_at x.ps
    obtain ⟨d0, d1, d2, d3, d4, d5, d6⟩ := FO.out.p7 hz7
    have f0 := FO.out.fz ((freeL x.ps).length * 7)
    have f1 := FO.out.fz ((freeL x.ps).length * 7 + 1)
    have f2 := FO.out.fz ((freeL x.ps).length * 7 + 2)
    have f3 := FO.out.fz ((freeL x.ps).length * 7 + 3)
    have f4 := FO.out.fz ((freeL x.ps).length * 7 + 4)
    try dsimp only [zeroP] at d0 d1 d2 d3 d4 d5 d6
    have ew : IntKind.i64.wrap ((((freeL x.ps).length : Int) + 1) - 1) = ((freeL x.ps).length : Int) := (IntWalk.i64_in _ (by omega)).trans (by omega)
    have en : (((freeL x.ps).length + 1 : Nat) : Int) - 1 = ((freeL x.ps).length : Int) := by omega
    go_upto_region 13 with fail
    obtain ⟨w6, hw6⟩ : ∃ w6, w6 = ((((w5.setCell ⟨g, (freeL x.ps).length * 7, none⟩ (.int .i64 x.nx)).setCell ⟨g, (freeL x.ps).length * 7 + 1, none⟩ (.int .i64 f)).setCell ⟨g, (freeL x.ps).length * 7 + 2, none⟩ (.int .i64 t)).setCell ⟨g, (freeL x.ps).length * 7 + 3, none⟩ (.int .i64 sh)).setCell ⟨g, (freeL x.ps).length * 7 + 4, none⟩ (.int .i64 ca) := ⟨_, rfl⟩
    have FO : Hid (Ow w6 w.heap.size g ((freeL x.ps).length + 1) ((freeL x.ps).length + 1) (freeL x.ps ++ [(⟨x.nx, f, t, sh, ca, 0, 0⟩ : Pe)])) := by rw [hw6]; exact free_set FO.out hz7
    have F1 : Hid (LW w6 (w.heap.size + 1) x.nx (.slice aa x.ps.length cap)) := by rw [hw6]; exact ((((F1.out.other (by omega)).other (by omega)).other (by omega)).other (by omega)).other (by omega)
    have F2 : Hid (RL w6 (w.heap.size + 2)) := by rw [hw6]; exact ((((F2.out.other (by omega)).other (by omega)).other (by omega)).other (by omega)).other (by omega)
    have FB : Hid (Below w.heap.size w w6) := by rw [hw6]; exact ((((FB.out.setCell (show w.heap.size ≤ g by omega) _).setCell (show w.heap.size ≤ g by omega) _).setCell (show w.heap.size ≤ g by omega) _).setCell (show w.heap.size ≤ g by omega) _).setCell (show w.heap.size ≤ g by omega) _
    rw [← hw6]
    clear hw6
    clear d0 d1 d2 d3 d4 d5 d6 f0 f1 f2 f3 f4 x0_0 x0_1 x0_2 x0_3 x0_4 x0_5 x0_6 x0_7 x0_8 x0_9 x0_10 x0_11 x1_0 x1_1 y1_0 y1_1
    obtain ⟨x1_0, x1_1, y1_0, y1_1⟩ := F1.out
    obtain ⟨r0, r1, r2, r3, s0, s1, s2, s3⟩ := F2.out
    have ex : IntKind.i64.wrap (x.nx + 1) = x.nx + 1 := IntWalk.i64_in _ (by omega)
    go_wp2_with fail
    exact bodyPost_ret (v := .agg #[.int .i64 0, .int .i64 x.nx, .int .i64 (x.nx + 1), .slice (some ⟨g, 0, none⟩) ((freeL x.ps).length + 1) ((freeL x.ps).length + 1)]) (by simp [results, Try.results6, go_sem, r0, r1, r2, r3]) rfl ⟨_, rfl, ((((FO.out.other (by simp; omega) _).other (by simp; omega) _).other (by simp; omega) _).other (by simp; omega) _).own, (((FB.out.setCell (by simp <;> omega) _).setCell (by simp <;> omega) _).setCell (by simp <;> omega) _).setCell (by simp <;> omega) _⟩
  have KF : Hid (decide (x.ps.length = 60) = true) := kf
  have c60 : x.ps.length = 60 := by simpa using kf
  cases kt : decide (fi x.ps < x.ps.length)
  · have c1 : ¬ fi x.ps < x.ps.length := by simpa using kt
    rw [if_pos (Or.inr ⟨by omega, by have := fi_le x.ps; omega⟩)] at hK
    subst hK
    rw [if_neg (by omega), if_neg (by omega)]
    clear hled hcall km kf c60
    go_enter Try.func6, Try.ntmps6
    go_upto_region 1 with fail
    obtain ⟨W0, hW0⟩ : ∃ W0, W0 = (((w.alloc (.cells #[.int .i64 h.fl, .int .i64 h.gp, .int .i64 h.ln, .int .i64 h.rf, .int .i64 h.sp, .int .i64 h.pu, .int .i64 h.br, .int .i64 h.dr, .int .i64 h.lv, .int .i64 h.dO, .int .i64 h.ld, .int .i64 h.qu] 25)).alloc (.cells #[.int .i64 x.nx, .slice aa x.ps.length cap] 28)).alloc (.cells #[.int .i64 0, .int .i64 0, .int .i64 0, .slice none 0 0] 32)) := ⟨_, rfl⟩
    have F0 : Hid (HAt W0 w.heap.size h) := by rw [hW0]; exact ((HAt.at_ w h _ _ rfl).alloc _).alloc _
    have F1 : Hid (LW W0 (w.heap.size + 1) x.nx (.slice aa x.ps.length cap)) := by rw [hW0]; exact (LW.at_ _ x.nx (.slice aa x.ps.length cap) _ _ (by simp)).alloc _
    have F2 : Hid (RL W0 (w.heap.size + 2)) := by rw [hW0]; exact RL.at_ _ _ _ (by simp)
    have FB : Hid (Below w.heap.size w W0) := by rw [hW0]; exact (((Below.refl _ _).alloc (Nat.le_refl _) _).alloc (by simp) _).alloc (by simp; omega) _
    rw [← hW0]
    clear hW0
    have F0 : Hid (HAt W0.drew w.heap.size h) := F0.out.below (Below.refl _ _).drew F0.out.lt
    have F1 : Hid (LW W0.drew (w.heap.size + 1) x.nx (.slice aa x.ps.length cap)) := F1.out.below (Below.refl _ _).drew F1.out.lt
    have F2 : Hid (RL W0.drew (w.heap.size + 2)) := F2.out.below (Below.refl _ _).drew F2.out.lt
    have FB : Hid (Below w.heap.size w W0.drew) := FB.out.drew
    obtain ⟨x0_0, x0_1, x0_2, x0_3, x0_4, x0_5, x0_6, x0_7, x0_8, x0_9, x0_10, x0_11⟩ := F0.out
    have m0 := F1.out.c0
    have m1 := F1.out.c1
    refine wp_region_held_drew (S := (fun w'' => w''.cell? ⟨w.heap.size, 0, none⟩ = some (.int .i64 h.fl) ∧ w''.cell? ⟨w.heap.size, 1, none⟩ = some (.int .i64 h.gp) ∧ w''.cell? ⟨w.heap.size, 2, none⟩ = some (.int .i64 h.ln) ∧ w''.cell? ⟨w.heap.size, 3, none⟩ = some (.int .i64 h.rf) ∧ w''.cell? ⟨w.heap.size, 4, none⟩ = some (.int .i64 h.sp) ∧ w''.cell? ⟨w.heap.size, 5, none⟩ = some (.int .i64 h.pu) ∧ w''.cell? ⟨w.heap.size, 6, none⟩ = some (.int .i64 h.br) ∧ w''.cell? ⟨w.heap.size, 7, none⟩ = some (.int .i64 h.dr) ∧ w''.cell? ⟨w.heap.size, 8, none⟩ = some (.int .i64 h.lv) ∧ w''.cell? ⟨w.heap.size, 9, none⟩ = some (.int .i64 h.dO) ∧ w''.cell? ⟨w.heap.size, 10, none⟩ = some (.int .i64 h.ld) ∧ w''.cell? ⟨w.heap.size, 11, none⟩ = some (.int .i64 h.qu) ∧ w''.cell? ⟨(w.heap.size + 1), 0, none⟩ = some (.int .i64 x.nx) ∧ w''.cell? ⟨(w.heap.size + 1), 1, none⟩ = some (.slice aa x.ps.length cap))) (by kernel_rfl) (by (try dsimp only); first | exact ⟨x0_0, x0_1, x0_2, x0_3, x0_4, x0_5, x0_6, x0_7, x0_8, x0_9, x0_10, x0_11, m0, m1⟩ | go_keep) (fun hHeld => ?_)
    obtain ⟨v_27, hw1⟩ : ∃ v_27, v_27 = W0.drew := ⟨_, rfl⟩
    have F0 : Hid (HAt v_27 w.heap.size h) := by rw [hw1]; exact F0.out
    have F1 : Hid (LW v_27 (w.heap.size + 1) x.nx (.slice aa x.ps.length cap)) := by rw [hw1]; exact F1.out
    have F2 : Hid (RL v_27 (w.heap.size + 2)) := by rw [hw1]; exact F2.out
    have FB : Hid (Below w.heap.size w v_27) := by rw [hw1]; exact FB.out
    rw [← hw1] at hHeld ⊢
    clear hw1
    obtain ⟨x0_0, x0_1, x0_2, x0_3, x0_4, x0_5, x0_6, x0_7, x0_8, x0_9, x0_10, x0_11⟩ := F0.out
    have m0 := F1.out.c0
    have m1 := F1.out.c1
    refine tkz 0 rfl ?_
    refine tkz 1 rfl ?_
    refine tkz 3 rfl ?_
    refine tkz 4 rfl ?_
    refine tkz 5 rfl ?_
    refine wpAnyH_ready (rs := [2]) (by kernel_rfl) (by simp) ?_
    refine (AllReadyH.cons rfl (fun K hK => ?_) AllReadyH.nil)
    go_simp
    refine (implLedgerFault_any h x aa cap hl _ ((HP.out.below FB.out (Nat.le_refl _)).mono FB.out.size)).mono ?_
    rintro e v_28 ⟨rfl, hb⟩
    have F0 : Hid (HAt v_28 w.heap.size h) := F0.out.below hb F0.out.lt
    have F1 : Hid (LW v_28 (w.heap.size + 1) x.nx (.slice aa x.ps.length cap)) := F1.out.below hb F1.out.lt
    have F2 : Hid (RL v_28 (w.heap.size + 2)) := F2.out.below hb F2.out.lt
    have FB : Hid (Below w.heap.size w v_28) := FB.out.trans (hb.mono FB.out.size)
    clear hb
    obtain ⟨x0_0, x0_1, x0_2, x0_3, x0_4, x0_5, x0_6, x0_7, x0_8, x0_9, x0_10, x0_11⟩ := F0.out
    have m0 := F1.out.c0
    have m1 := F1.out.c1
    try dsimp only
    refine hK.out _ _ (by (try dsimp only); first | exact ⟨x0_0, x0_1, x0_2, x0_3, x0_4, x0_5, x0_6, x0_7, x0_8, x0_9, x0_10, x0_11, m0, m1⟩ | go_keep) (fun hHeld => ?_)
    clear hK K
    try simp only [Act.put, List.getElem_toArray, List.getElem_cons_succ, List.getElem_cons_zero, List.setIfInBounds_toArray, List.set_cons_zero, List.set_cons_succ]
    refine wpAnyH_ready (rs := [6]) (by kernel_rfl) (by simp) ?_
    refine (AllReadyH.cons rfl (fun K hK => ?_) AllReadyH.nil)
    go_simp
    refine (implCallFault_any h f t _).mono ?_
    rintro e v_29 ⟨rfl, hb⟩
    have F0 : Hid (HAt v_29 w.heap.size h) := F0.out.below hb F0.out.lt
    have F1 : Hid (LW v_29 (w.heap.size + 1) x.nx (.slice aa x.ps.length cap)) := F1.out.below hb F1.out.lt
    have F2 : Hid (RL v_29 (w.heap.size + 2)) := F2.out.below hb F2.out.lt
    have FB : Hid (Below w.heap.size w v_29) := FB.out.trans (hb.mono FB.out.size)
    clear hb
    obtain ⟨x0_0, x0_1, x0_2, x0_3, x0_4, x0_5, x0_6, x0_7, x0_8, x0_9, x0_10, x0_11⟩ := F0.out
    have m0 := F1.out.c0
    have m1 := F1.out.c1
    try dsimp only
    refine hK.out _ _ (by (try dsimp only); first | exact ⟨x0_0, x0_1, x0_2, x0_3, x0_4, x0_5, x0_6, x0_7, x0_8, x0_9, x0_10, x0_11, m0, m1⟩ | go_keep) (fun hHeld => ?_)
    clear hK K
    try simp only [Act.put, List.getElem_toArray, List.getElem_cons_succ, List.getElem_cons_zero, List.setIfInBounds_toArray, List.set_cons_zero, List.set_cons_succ]
    refine wpAnyH_ready (rs := [7]) (by kernel_rfl) (by simp) ?_
    refine (AllReadyH.cons rfl (fun K hK => ?_) AllReadyH.nil)
    go_simp
    obtain ⟨lb0, hbb⟩ : ∃ lb0, lb0 = v_29.heap.size := ⟨_, rfl⟩
    obtain ⟨v_30, hw2⟩ : ∃ v_30, v_30 = v_29.alloc (.cells #[.int .i64 (Hs.led h x), .int .i64 (Hs.call h f t)] 2) := ⟨_, rfl⟩
    have nlb0_0 := F0.out.lt
    rw [← hbb] at nlb0_0
    have nlb0_1 := F1.out.lt
    rw [← hbb] at nlb0_1
    have nlb0_2 := F2.out.lt
    rw [← hbb] at nlb0_2
    have FL0 : Hid (Pr2 v_30 lb0 (Hs.led h x) (Hs.call h f t)) := by rw [hw2]; exact Pr2.at_ v_29 _ _ _ lb0 hbb
    have F0 : Hid (HAt v_30 w.heap.size h) := by rw [hw2]; exact F0.out.alloc _
    have F1 : Hid (LW v_30 (w.heap.size + 1) x.nx (.slice aa x.ps.length cap)) := by rw [hw2]; exact F1.out.alloc _
    have F2 : Hid (RL v_30 (w.heap.size + 2)) := by rw [hw2]; exact F2.out.alloc _
    have FB : Hid (Below w.heap.size w v_30) := by rw [hw2]; exact FB.out.alloc FB.out.size _
    rw [← hw2, ← hbb]
    clear hbb hw2
    obtain ⟨x0_0, x0_1, x0_2, x0_3, x0_4, x0_5, x0_6, x0_7, x0_8, x0_9, x0_10, x0_11⟩ := F0.out
    have m0 := F1.out.c0
    have m1 := F1.out.c1
    refine hK.out _ _ (by (try dsimp only); first | exact ⟨x0_0, x0_1, x0_2, x0_3, x0_4, x0_5, x0_6, x0_7, x0_8, x0_9, x0_10, x0_11, m0, m1⟩ | go_keep) (fun hHeld => ?_)
    clear hK K
    try simp only [Act.put, List.getElem_toArray, List.getElem_cons_succ, List.getElem_cons_zero, List.setIfInBounds_toArray, List.set_cons_zero, List.set_cons_succ]
    refine wpAnyH_ready (rs := [8]) (by kernel_rfl) (by simp) ?_
    refine (AllReadyH.cons rfl (fun K hK => ?_) AllReadyH.nil)
    go_simp
    refine (or_any (Hs.led h x) (Hs.call h f t) _ _ FL0.out.c0 FL0.out.c1).mono ?_
    rintro e w_ ⟨rfl, hw⟩
    obtain rfl := hw.symm
    clear hw
    try dsimp only
    refine hK.out _ _ (by (try dsimp only); first | exact ⟨x0_0, x0_1, x0_2, x0_3, x0_4, x0_5, x0_6, x0_7, x0_8, x0_9, x0_10, x0_11, m0, m1⟩ | go_keep) (fun hHeld => ?_)
    clear hK K
    try simp only [Act.put, List.getElem_toArray, List.getElem_cons_succ, List.getElem_cons_zero, List.setIfInBounds_toArray, List.set_cons_zero, List.set_cons_succ]
    refine tkz 9 rfl ?_
    refine wpAnyH_done (by kernel_rfl) ?_ _
    go_upto_region 6 with (go_at_call 18; refine (isCar_any _ _ _).mono ?_; rw [kc]; rintro e w' ⟨rfl, hw⟩; obtain rfl := hw.symm; clear hw)
    obtain ⟨w2, hW_⟩ : ∃ w2, w2 = v_30 := ⟨_, rfl⟩
    have F0 : Hid (HAt w2 w.heap.size h) := by rw [hW_]; exact F0.out
    have F1 : Hid (LW w2 (w.heap.size + 1) x.nx (.slice aa x.ps.length cap)) := by rw [hW_]; exact F1.out
    have F2 : Hid (RL w2 (w.heap.size + 2)) := by rw [hW_]; exact F2.out
    have FB : Hid (Below w.heap.size w w2) := by rw [hW_]; exact FB.out
    rw [← hW_]
    clear hW_
    have F0 : Hid (HAt w2.drew w.heap.size h) := F0.out.below (Below.refl _ _).drew F0.out.lt
    have F1 : Hid (LW w2.drew (w.heap.size + 1) x.nx (.slice aa x.ps.length cap)) := F1.out.below (Below.refl _ _).drew F1.out.lt
    have F2 : Hid (RL w2.drew (w.heap.size + 2)) := F2.out.below (Below.refl _ _).drew F2.out.lt
    have FB : Hid (Below w.heap.size w w2.drew) := FB.out.drew
    have m1 := F1.out.c1
    have mq := F0.out.c11
    refine wp_region_held_drew (S := (fun w'' => w''.cell? ⟨(w.heap.size + 1), 1, none⟩ = some (.slice aa x.ps.length cap) ∧ w''.cell? ⟨w.heap.size, 11, none⟩ = some (.int .i64 h.qu))) (by kernel_rfl) (by (try dsimp only); first | exact ⟨m1, mq⟩ | go_keep) (fun hHeld => ?_)
    obtain ⟨v_31, hw1⟩ : ∃ v_31, v_31 = w2.drew := ⟨_, rfl⟩
    have F0 : Hid (HAt v_31 w.heap.size h) := by rw [hw1]; exact F0.out
    have F1 : Hid (LW v_31 (w.heap.size + 1) x.nx (.slice aa x.ps.length cap)) := by rw [hw1]; exact F1.out
    have F2 : Hid (RL v_31 (w.heap.size + 2)) := by rw [hw1]; exact F2.out
    have FB : Hid (Below w.heap.size w v_31) := by rw [hw1]; exact FB.out
    rw [← hw1] at hHeld ⊢
    clear hw1
    have m1 := F1.out.c1
    have mq := F0.out.c11
    refine tkz 0 rfl ?_
    refine tkz 1 rfl ?_
    refine tkz 5 rfl ?_
    refine tkz 6 rfl ?_
    refine wpAnyH_ready (rs := [2]) (by kernel_rfl) (by simp) ?_
    refine (AllReadyH.cons rfl (fun K hK => ?_) AllReadyH.nil)
    go_simp
    refine (countStates_any x.ps aa cap hl HS.out _ ((HP.out.below FB.out (Nat.le_refl _)).mono FB.out.size)).mono ?_
    rintro e v_32 ⟨gc, rfl, ho, hb⟩
    have F0 : Hid (HAt v_32 w.heap.size h) := F0.out.below hb F0.out.lt
    have F1 : Hid (LW v_32 (w.heap.size + 1) x.nx (.slice aa x.ps.length cap)) := F1.out.below hb F1.out.lt
    have F2 : Hid (RL v_32 (w.heap.size + 2)) := F2.out.below hb F2.out.lt
    have FB : Hid (Below w.heap.size w v_32) := FB.out.trans (hb.mono FB.out.size)
    clear hb
    have m1 := F1.out.c1
    have mq := F0.out.c11
    have y0 := ho.cell (i := 0) rfl
    clear ho
    try dsimp only
    refine hK.out _ _ (by (try dsimp only); first | exact ⟨m1, mq⟩ | go_keep) (fun hHeld => ?_)
    clear hK K
    try simp only [Act.put, List.getElem_toArray, List.getElem_cons_succ, List.getElem_cons_zero, List.setIfInBounds_toArray, List.set_cons_zero, List.set_cons_succ]
    refine tkz 3 rfl ?_
    refine wpAnyH_ready (rs := [4]) (by kernel_rfl) (by simp) ?_
    refine (AllReadyH.cons rfl (fun K hK => ?_) AllReadyH.nil)
    go_simp
    refine hK.out _ _ (by (try dsimp only); first | exact ⟨m1, mq⟩ | go_keep) (fun hHeld => ?_)
    clear hK K
    try simp only [Act.put, List.getElem_toArray, List.getElem_cons_succ, List.getElem_cons_zero, List.setIfInBounds_toArray, List.set_cons_zero, List.set_cons_succ]
    refine tkz 7 rfl ?_
    refine wpAnyH_done (by kernel_rfl) ?_ _
    go_upto_region 8 with fail
    obtain ⟨w3, hW_⟩ : ∃ w3, w3 = v_32 := ⟨_, rfl⟩
    have F0 : Hid (HAt w3 w.heap.size h) := by rw [hW_]; exact F0.out
    have F1 : Hid (LW w3 (w.heap.size + 1) x.nx (.slice aa x.ps.length cap)) := by rw [hW_]; exact F1.out
    have F2 : Hid (RL w3 (w.heap.size + 2)) := by rw [hW_]; exact F2.out
    have FB : Hid (Below w.heap.size w w3) := by rw [hW_]; exact FB.out
    rw [← hW_]
    clear hW_
    obtain ⟨x0_0, x0_1, x0_2, x0_3, x0_4, x0_5, x0_6, x0_7, x0_8, x0_9, x0_10, x0_11⟩ := F0.out
    obtain ⟨x1_0, x1_1, y1_0, y1_1⟩ := F1.out
    go_upto_region 9 with (first | (go_at_call 20; refine (isFull_any x.ps aa cap hl _).mono ?_; rw [KF.out]; rintro e w' ⟨rfl, hw⟩; obtain rfl := hw.symm; clear hw) | (go_at_call 21; refine (containsFunc_any x.ps aa cap hl _ ((HP.out.below FB.out (Nat.le_refl _)).mono FB.out.size)).mono ?_; rw [kt]; rintro e w4 ⟨rfl, hb⟩; have F0 : Hid (HAt w4 w.heap.size h) := F0.out.below hb F0.out.lt; have F1 : Hid (LW w4 (w.heap.size + 1) x.nx (.slice aa x.ps.length cap)) := F1.out.below hb F1.out.lt; have F2 : Hid (RL w4 (w.heap.size + 2)) := F2.out.below hb F2.out.lt; have FB : Hid (Below w.heap.size w w4) := FB.out.trans (hb.mono FB.out.size); clear hb; obtain ⟨x0_0, x0_1, x0_2, x0_3, x0_4, x0_5, x0_6, x0_7, x0_8, x0_9, x0_10, x0_11⟩ := F0.out; obtain ⟨x1_0, x1_1, y1_0, y1_1⟩ := F1.out))
    obtain ⟨r0, r1, r2, r3, s0, s1, s2, s3⟩ := F2.out
    go_wp2_with fail
    exact bodyPost_ret (v := .agg #[.int .i64 2, .int .i64 0, .int .i64 0, .slice none 0 0]) (by simp [results, Try.results6, go_sem, r0, r1, r2, r3]) rfl ⟨_, rfl, own_nil _ _, (((FB.out.setCell (by simp <;> omega) _).setCell (by simp <;> omega) _).setCell (by simp <;> omega) _).setCell (by simp <;> omega) _⟩
  · have c1 : fi x.ps < x.ps.length := by simpa using kt
    rw [if_neg (by omega)] at hK
    subst hK
    rw [if_pos rfl, if_pos rfl]
    have hfr : x.ps.length = 60 → fi x.ps < 60 := fun e => by omega
    have hln := freeL_len x.ps hlen hfr
    have hNb : (freeL x.ps).length ≤ 60 := by rw [hln]; split <;> omega
    clear hled hcall km hln kf c60
    go_enter Try.func6, Try.ntmps6
    go_upto_region 1 with fail
    obtain ⟨W0, hW0⟩ : ∃ W0, W0 = (((w.alloc (.cells #[.int .i64 h.fl, .int .i64 h.gp, .int .i64 h.ln, .int .i64 h.rf, .int .i64 h.sp, .int .i64 h.pu, .int .i64 h.br, .int .i64 h.dr, .int .i64 h.lv, .int .i64 h.dO, .int .i64 h.ld, .int .i64 h.qu] 25)).alloc (.cells #[.int .i64 x.nx, .slice aa x.ps.length cap] 28)).alloc (.cells #[.int .i64 0, .int .i64 0, .int .i64 0, .slice none 0 0] 32)) := ⟨_, rfl⟩
    have F0 : Hid (HAt W0 w.heap.size h) := by rw [hW0]; exact ((HAt.at_ w h _ _ rfl).alloc _).alloc _
    have F1 : Hid (LW W0 (w.heap.size + 1) x.nx (.slice aa x.ps.length cap)) := by rw [hW0]; exact (LW.at_ _ x.nx (.slice aa x.ps.length cap) _ _ (by simp)).alloc _
    have F2 : Hid (RL W0 (w.heap.size + 2)) := by rw [hW0]; exact RL.at_ _ _ _ (by simp)
    have FB : Hid (Below w.heap.size w W0) := by rw [hW0]; exact (((Below.refl _ _).alloc (Nat.le_refl _) _).alloc (by simp) _).alloc (by simp; omega) _
    rw [← hW0]
    clear hW0
    have F0 : Hid (HAt W0.drew w.heap.size h) := F0.out.below (Below.refl _ _).drew F0.out.lt
    have F1 : Hid (LW W0.drew (w.heap.size + 1) x.nx (.slice aa x.ps.length cap)) := F1.out.below (Below.refl _ _).drew F1.out.lt
    have F2 : Hid (RL W0.drew (w.heap.size + 2)) := F2.out.below (Below.refl _ _).drew F2.out.lt
    have FB : Hid (Below w.heap.size w W0.drew) := FB.out.drew
    obtain ⟨x0_0, x0_1, x0_2, x0_3, x0_4, x0_5, x0_6, x0_7, x0_8, x0_9, x0_10, x0_11⟩ := F0.out
    have m0 := F1.out.c0
    have m1 := F1.out.c1
    refine wp_region_held_drew (S := (fun w'' => w''.cell? ⟨w.heap.size, 0, none⟩ = some (.int .i64 h.fl) ∧ w''.cell? ⟨w.heap.size, 1, none⟩ = some (.int .i64 h.gp) ∧ w''.cell? ⟨w.heap.size, 2, none⟩ = some (.int .i64 h.ln) ∧ w''.cell? ⟨w.heap.size, 3, none⟩ = some (.int .i64 h.rf) ∧ w''.cell? ⟨w.heap.size, 4, none⟩ = some (.int .i64 h.sp) ∧ w''.cell? ⟨w.heap.size, 5, none⟩ = some (.int .i64 h.pu) ∧ w''.cell? ⟨w.heap.size, 6, none⟩ = some (.int .i64 h.br) ∧ w''.cell? ⟨w.heap.size, 7, none⟩ = some (.int .i64 h.dr) ∧ w''.cell? ⟨w.heap.size, 8, none⟩ = some (.int .i64 h.lv) ∧ w''.cell? ⟨w.heap.size, 9, none⟩ = some (.int .i64 h.dO) ∧ w''.cell? ⟨w.heap.size, 10, none⟩ = some (.int .i64 h.ld) ∧ w''.cell? ⟨w.heap.size, 11, none⟩ = some (.int .i64 h.qu) ∧ w''.cell? ⟨(w.heap.size + 1), 0, none⟩ = some (.int .i64 x.nx) ∧ w''.cell? ⟨(w.heap.size + 1), 1, none⟩ = some (.slice aa x.ps.length cap))) (by kernel_rfl) (by (try dsimp only); first | exact ⟨x0_0, x0_1, x0_2, x0_3, x0_4, x0_5, x0_6, x0_7, x0_8, x0_9, x0_10, x0_11, m0, m1⟩ | go_keep) (fun hHeld => ?_)
    obtain ⟨v_33, hw1⟩ : ∃ v_33, v_33 = W0.drew := ⟨_, rfl⟩
    have F0 : Hid (HAt v_33 w.heap.size h) := by rw [hw1]; exact F0.out
    have F1 : Hid (LW v_33 (w.heap.size + 1) x.nx (.slice aa x.ps.length cap)) := by rw [hw1]; exact F1.out
    have F2 : Hid (RL v_33 (w.heap.size + 2)) := by rw [hw1]; exact F2.out
    have FB : Hid (Below w.heap.size w v_33) := by rw [hw1]; exact FB.out
    rw [← hw1] at hHeld ⊢
    clear hw1
    obtain ⟨x0_0, x0_1, x0_2, x0_3, x0_4, x0_5, x0_6, x0_7, x0_8, x0_9, x0_10, x0_11⟩ := F0.out
    have m0 := F1.out.c0
    have m1 := F1.out.c1
    refine tkz 0 rfl ?_
    refine tkz 1 rfl ?_
    refine tkz 3 rfl ?_
    refine tkz 4 rfl ?_
    refine tkz 5 rfl ?_
    refine wpAnyH_ready (rs := [2]) (by kernel_rfl) (by simp) ?_
    refine (AllReadyH.cons rfl (fun K hK => ?_) AllReadyH.nil)
    go_simp
    refine (implLedgerFault_any h x aa cap hl _ ((HP.out.below FB.out (Nat.le_refl _)).mono FB.out.size)).mono ?_
    rintro e v_34 ⟨rfl, hb⟩
    have F0 : Hid (HAt v_34 w.heap.size h) := F0.out.below hb F0.out.lt
    have F1 : Hid (LW v_34 (w.heap.size + 1) x.nx (.slice aa x.ps.length cap)) := F1.out.below hb F1.out.lt
    have F2 : Hid (RL v_34 (w.heap.size + 2)) := F2.out.below hb F2.out.lt
    have FB : Hid (Below w.heap.size w v_34) := FB.out.trans (hb.mono FB.out.size)
    clear hb
    obtain ⟨x0_0, x0_1, x0_2, x0_3, x0_4, x0_5, x0_6, x0_7, x0_8, x0_9, x0_10, x0_11⟩ := F0.out
    have m0 := F1.out.c0
    have m1 := F1.out.c1
    try dsimp only
    refine hK.out _ _ (by (try dsimp only); first | exact ⟨x0_0, x0_1, x0_2, x0_3, x0_4, x0_5, x0_6, x0_7, x0_8, x0_9, x0_10, x0_11, m0, m1⟩ | go_keep) (fun hHeld => ?_)
    clear hK K
    try simp only [Act.put, List.getElem_toArray, List.getElem_cons_succ, List.getElem_cons_zero, List.setIfInBounds_toArray, List.set_cons_zero, List.set_cons_succ]
    refine wpAnyH_ready (rs := [6]) (by kernel_rfl) (by simp) ?_
    refine (AllReadyH.cons rfl (fun K hK => ?_) AllReadyH.nil)
    go_simp
    refine (implCallFault_any h f t _).mono ?_
    rintro e v_35 ⟨rfl, hb⟩
    have F0 : Hid (HAt v_35 w.heap.size h) := F0.out.below hb F0.out.lt
    have F1 : Hid (LW v_35 (w.heap.size + 1) x.nx (.slice aa x.ps.length cap)) := F1.out.below hb F1.out.lt
    have F2 : Hid (RL v_35 (w.heap.size + 2)) := F2.out.below hb F2.out.lt
    have FB : Hid (Below w.heap.size w v_35) := FB.out.trans (hb.mono FB.out.size)
    clear hb
    obtain ⟨x0_0, x0_1, x0_2, x0_3, x0_4, x0_5, x0_6, x0_7, x0_8, x0_9, x0_10, x0_11⟩ := F0.out
    have m0 := F1.out.c0
    have m1 := F1.out.c1
    try dsimp only
    refine hK.out _ _ (by (try dsimp only); first | exact ⟨x0_0, x0_1, x0_2, x0_3, x0_4, x0_5, x0_6, x0_7, x0_8, x0_9, x0_10, x0_11, m0, m1⟩ | go_keep) (fun hHeld => ?_)
    clear hK K
    try simp only [Act.put, List.getElem_toArray, List.getElem_cons_succ, List.getElem_cons_zero, List.setIfInBounds_toArray, List.set_cons_zero, List.set_cons_succ]
    refine wpAnyH_ready (rs := [7]) (by kernel_rfl) (by simp) ?_
    refine (AllReadyH.cons rfl (fun K hK => ?_) AllReadyH.nil)
    go_simp
    obtain ⟨lb0, hbb⟩ : ∃ lb0, lb0 = v_35.heap.size := ⟨_, rfl⟩
    obtain ⟨v_36, hw2⟩ : ∃ v_36, v_36 = v_35.alloc (.cells #[.int .i64 (Hs.led h x), .int .i64 (Hs.call h f t)] 2) := ⟨_, rfl⟩
    have nlb0_0 := F0.out.lt
    rw [← hbb] at nlb0_0
    have nlb0_1 := F1.out.lt
    rw [← hbb] at nlb0_1
    have nlb0_2 := F2.out.lt
    rw [← hbb] at nlb0_2
    have FL0 : Hid (Pr2 v_36 lb0 (Hs.led h x) (Hs.call h f t)) := by rw [hw2]; exact Pr2.at_ v_35 _ _ _ lb0 hbb
    have F0 : Hid (HAt v_36 w.heap.size h) := by rw [hw2]; exact F0.out.alloc _
    have F1 : Hid (LW v_36 (w.heap.size + 1) x.nx (.slice aa x.ps.length cap)) := by rw [hw2]; exact F1.out.alloc _
    have F2 : Hid (RL v_36 (w.heap.size + 2)) := by rw [hw2]; exact F2.out.alloc _
    have FB : Hid (Below w.heap.size w v_36) := by rw [hw2]; exact FB.out.alloc FB.out.size _
    rw [← hw2, ← hbb]
    clear hbb hw2
    obtain ⟨x0_0, x0_1, x0_2, x0_3, x0_4, x0_5, x0_6, x0_7, x0_8, x0_9, x0_10, x0_11⟩ := F0.out
    have m0 := F1.out.c0
    have m1 := F1.out.c1
    refine hK.out _ _ (by (try dsimp only); first | exact ⟨x0_0, x0_1, x0_2, x0_3, x0_4, x0_5, x0_6, x0_7, x0_8, x0_9, x0_10, x0_11, m0, m1⟩ | go_keep) (fun hHeld => ?_)
    clear hK K
    try simp only [Act.put, List.getElem_toArray, List.getElem_cons_succ, List.getElem_cons_zero, List.setIfInBounds_toArray, List.set_cons_zero, List.set_cons_succ]
    refine wpAnyH_ready (rs := [8]) (by kernel_rfl) (by simp) ?_
    refine (AllReadyH.cons rfl (fun K hK => ?_) AllReadyH.nil)
    go_simp
    refine (or_any (Hs.led h x) (Hs.call h f t) _ _ FL0.out.c0 FL0.out.c1).mono ?_
    rintro e w_ ⟨rfl, hw⟩
    obtain rfl := hw.symm
    clear hw
    try dsimp only
    refine hK.out _ _ (by (try dsimp only); first | exact ⟨x0_0, x0_1, x0_2, x0_3, x0_4, x0_5, x0_6, x0_7, x0_8, x0_9, x0_10, x0_11, m0, m1⟩ | go_keep) (fun hHeld => ?_)
    clear hK K
    try simp only [Act.put, List.getElem_toArray, List.getElem_cons_succ, List.getElem_cons_zero, List.setIfInBounds_toArray, List.set_cons_zero, List.set_cons_succ]
    refine tkz 9 rfl ?_
    refine wpAnyH_done (by kernel_rfl) ?_ _
    go_upto_region 6 with (go_at_call 18; refine (isCar_any _ _ _).mono ?_; rw [kc]; rintro e w' ⟨rfl, hw⟩; obtain rfl := hw.symm; clear hw)
    obtain ⟨w2, hW_⟩ : ∃ w2, w2 = v_36 := ⟨_, rfl⟩
    have F0 : Hid (HAt w2 w.heap.size h) := by rw [hW_]; exact F0.out
    have F1 : Hid (LW w2 (w.heap.size + 1) x.nx (.slice aa x.ps.length cap)) := by rw [hW_]; exact F1.out
    have F2 : Hid (RL w2 (w.heap.size + 2)) := by rw [hW_]; exact F2.out
    have FB : Hid (Below w.heap.size w w2) := by rw [hW_]; exact FB.out
    rw [← hW_]
    clear hW_
    have F0 : Hid (HAt w2.drew w.heap.size h) := F0.out.below (Below.refl _ _).drew F0.out.lt
    have F1 : Hid (LW w2.drew (w.heap.size + 1) x.nx (.slice aa x.ps.length cap)) := F1.out.below (Below.refl _ _).drew F1.out.lt
    have F2 : Hid (RL w2.drew (w.heap.size + 2)) := F2.out.below (Below.refl _ _).drew F2.out.lt
    have FB : Hid (Below w.heap.size w w2.drew) := FB.out.drew
    have m1 := F1.out.c1
    have mq := F0.out.c11
    refine wp_region_held_drew (S := (fun w'' => w''.cell? ⟨(w.heap.size + 1), 1, none⟩ = some (.slice aa x.ps.length cap) ∧ w''.cell? ⟨w.heap.size, 11, none⟩ = some (.int .i64 h.qu))) (by kernel_rfl) (by (try dsimp only); first | exact ⟨m1, mq⟩ | go_keep) (fun hHeld => ?_)
    obtain ⟨v_37, hw1⟩ : ∃ v_37, v_37 = w2.drew := ⟨_, rfl⟩
    have F0 : Hid (HAt v_37 w.heap.size h) := by rw [hw1]; exact F0.out
    have F1 : Hid (LW v_37 (w.heap.size + 1) x.nx (.slice aa x.ps.length cap)) := by rw [hw1]; exact F1.out
    have F2 : Hid (RL v_37 (w.heap.size + 2)) := by rw [hw1]; exact F2.out
    have FB : Hid (Below w.heap.size w v_37) := by rw [hw1]; exact FB.out
    rw [← hw1] at hHeld ⊢
    clear hw1
    have m1 := F1.out.c1
    have mq := F0.out.c11
    refine tkz 0 rfl ?_
    refine tkz 1 rfl ?_
    refine tkz 5 rfl ?_
    refine tkz 6 rfl ?_
    refine wpAnyH_ready (rs := [2]) (by kernel_rfl) (by simp) ?_
    refine (AllReadyH.cons rfl (fun K hK => ?_) AllReadyH.nil)
    go_simp
    refine (countStates_any x.ps aa cap hl HS.out _ ((HP.out.below FB.out (Nat.le_refl _)).mono FB.out.size)).mono ?_
    rintro e v_38 ⟨gc, rfl, ho, hb⟩
    have F0 : Hid (HAt v_38 w.heap.size h) := F0.out.below hb F0.out.lt
    have F1 : Hid (LW v_38 (w.heap.size + 1) x.nx (.slice aa x.ps.length cap)) := F1.out.below hb F1.out.lt
    have F2 : Hid (RL v_38 (w.heap.size + 2)) := F2.out.below hb F2.out.lt
    have FB : Hid (Below w.heap.size w v_38) := FB.out.trans (hb.mono FB.out.size)
    clear hb
    have m1 := F1.out.c1
    have mq := F0.out.c11
    have y0 := ho.cell (i := 0) rfl
    clear ho
    try dsimp only
    refine hK.out _ _ (by (try dsimp only); first | exact ⟨m1, mq⟩ | go_keep) (fun hHeld => ?_)
    clear hK K
    try simp only [Act.put, List.getElem_toArray, List.getElem_cons_succ, List.getElem_cons_zero, List.setIfInBounds_toArray, List.set_cons_zero, List.set_cons_succ]
    refine tkz 3 rfl ?_
    refine wpAnyH_ready (rs := [4]) (by kernel_rfl) (by simp) ?_
    refine (AllReadyH.cons rfl (fun K hK => ?_) AllReadyH.nil)
    go_simp
    refine hK.out _ _ (by (try dsimp only); first | exact ⟨m1, mq⟩ | go_keep) (fun hHeld => ?_)
    clear hK K
    try simp only [Act.put, List.getElem_toArray, List.getElem_cons_succ, List.getElem_cons_zero, List.setIfInBounds_toArray, List.set_cons_zero, List.set_cons_succ]
    refine tkz 7 rfl ?_
    refine wpAnyH_done (by kernel_rfl) ?_ _
    go_upto_region 8 with fail
    obtain ⟨w3, hW_⟩ : ∃ w3, w3 = v_38 := ⟨_, rfl⟩
    have F0 : Hid (HAt w3 w.heap.size h) := by rw [hW_]; exact F0.out
    have F1 : Hid (LW w3 (w.heap.size + 1) x.nx (.slice aa x.ps.length cap)) := by rw [hW_]; exact F1.out
    have F2 : Hid (RL w3 (w.heap.size + 2)) := by rw [hW_]; exact F2.out
    have FB : Hid (Below w.heap.size w w3) := by rw [hW_]; exact FB.out
    rw [← hW_]
    clear hW_
    obtain ⟨x0_0, x0_1, x0_2, x0_3, x0_4, x0_5, x0_6, x0_7, x0_8, x0_9, x0_10, x0_11⟩ := F0.out
    obtain ⟨x1_0, x1_1, y1_0, y1_1⟩ := F1.out
    go_upto_region 11 with (first | (go_at_call 20; refine (isFull_any x.ps aa cap hl _).mono ?_; rw [KF.out]; rintro e w' ⟨rfl, hw⟩; obtain rfl := hw.symm; clear hw) | (go_at_call 21; refine (containsFunc_any x.ps aa cap hl _ ((HP.out.below FB.out (Nat.le_refl _)).mono FB.out.size)).mono ?_; rw [kt]; rintro e w4 ⟨rfl, hb⟩; have F0 : Hid (HAt w4 w.heap.size h) := F0.out.below hb F0.out.lt; have F1 : Hid (LW w4 (w.heap.size + 1) x.nx (.slice aa x.ps.length cap)) := F1.out.below hb F1.out.lt; have F2 : Hid (RL w4 (w.heap.size + 2)) := F2.out.below hb F2.out.lt; have FB : Hid (Below w.heap.size w w4) := FB.out.trans (hb.mono FB.out.size); clear hb; obtain ⟨x0_0, x0_1, x0_2, x0_3, x0_4, x0_5, x0_6, x0_7, x0_8, x0_9, x0_10, x0_11⟩ := F0.out; obtain ⟨x1_0, x1_1, y1_0, y1_1⟩ := F1.out) | (go_at_call 23; refine (withFreePlace_any x.ps aa cap hlen hfr _ ((HP.out.below FB.out (Nat.le_refl _)).mono FB.out.size)).mono ?_; rintro e w5 ⟨g, rfl, ho, hb⟩; have lr := F2.out.lt; have FO : Hid (Ow w5 w.heap.size g ((freeL x.ps).length + 1) ((freeL x.ps).length + 1) (freeL x.ps ++ [zeroP])) := ho.base FB.out.size; have ng : w.heap.size + 2 < g := (by have := ho.bl.1; omega); clear ho; have F0 : Hid (HAt w5 w.heap.size h) := F0.out.below hb F0.out.lt; have F1 : Hid (LW w5 (w.heap.size + 1) x.nx (.slice aa x.ps.length cap)) := F1.out.below hb F1.out.lt; have F2 : Hid (RL w5 (w.heap.size + 2)) := F2.out.below hb F2.out.lt; have FB : Hid (Below w.heap.size w w5) := FB.out.trans (hb.mono FB.out.size); clear hb; obtain ⟨x0_0, x0_1, x0_2, x0_3, x0_4, x0_5, x0_6, x0_7, x0_8, x0_9, x0_10, x0_11⟩ := F0.out; obtain ⟨x1_0, x1_1, y1_0, y1_1⟩ := F1.out))
    have hz7 := free_at x.ps
    obtain ⟨d0, d1, d2, d3, d4, d5, d6⟩ := FO.out.p7 hz7
    have f0 := FO.out.fz ((freeL x.ps).length * 7)
    have f1 := FO.out.fz ((freeL x.ps).length * 7 + 1)
    have f2 := FO.out.fz ((freeL x.ps).length * 7 + 2)
    have f3 := FO.out.fz ((freeL x.ps).length * 7 + 3)
    have f4 := FO.out.fz ((freeL x.ps).length * 7 + 4)
    try dsimp only [zeroP] at d0 d1 d2 d3 d4 d5 d6
    have ew : IntKind.i64.wrap ((((freeL x.ps).length : Int) + 1) - 1) = ((freeL x.ps).length : Int) := (IntWalk.i64_in _ (by omega)).trans (by omega)
    have en : (((freeL x.ps).length + 1 : Nat) : Int) - 1 = ((freeL x.ps).length : Int) := by omega
    go_upto_region 13 with fail
    obtain ⟨w6, hw6⟩ : ∃ w6, w6 = ((((w5.setCell ⟨g, (freeL x.ps).length * 7, none⟩ (.int .i64 x.nx)).setCell ⟨g, (freeL x.ps).length * 7 + 1, none⟩ (.int .i64 f)).setCell ⟨g, (freeL x.ps).length * 7 + 2, none⟩ (.int .i64 t)).setCell ⟨g, (freeL x.ps).length * 7 + 3, none⟩ (.int .i64 sh)).setCell ⟨g, (freeL x.ps).length * 7 + 4, none⟩ (.int .i64 ca) := ⟨_, rfl⟩
    have FO : Hid (Ow w6 w.heap.size g ((freeL x.ps).length + 1) ((freeL x.ps).length + 1) (freeL x.ps ++ [(⟨x.nx, f, t, sh, ca, 0, 0⟩ : Pe)])) := by rw [hw6]; exact free_set FO.out hz7
    have F1 : Hid (LW w6 (w.heap.size + 1) x.nx (.slice aa x.ps.length cap)) := by rw [hw6]; exact ((((F1.out.other (by omega)).other (by omega)).other (by omega)).other (by omega)).other (by omega)
    have F2 : Hid (RL w6 (w.heap.size + 2)) := by rw [hw6]; exact ((((F2.out.other (by omega)).other (by omega)).other (by omega)).other (by omega)).other (by omega)
    have FB : Hid (Below w.heap.size w w6) := by rw [hw6]; exact ((((FB.out.setCell (show w.heap.size ≤ g by omega) _).setCell (show w.heap.size ≤ g by omega) _).setCell (show w.heap.size ≤ g by omega) _).setCell (show w.heap.size ≤ g by omega) _).setCell (show w.heap.size ≤ g by omega) _
    rw [← hw6]
    clear hw6
    clear d0 d1 d2 d3 d4 d5 d6 f0 f1 f2 f3 f4 x0_0 x0_1 x0_2 x0_3 x0_4 x0_5 x0_6 x0_7 x0_8 x0_9 x0_10 x0_11 x1_0 x1_1 y1_0 y1_1
    obtain ⟨x1_0, x1_1, y1_0, y1_1⟩ := F1.out
    obtain ⟨r0, r1, r2, r3, s0, s1, s2, s3⟩ := F2.out
    have ex : IntKind.i64.wrap (x.nx + 1) = x.nx + 1 := IntWalk.i64_in _ (by omega)
    go_wp2_with fail
    exact bodyPost_ret (v := .agg #[.int .i64 0, .int .i64 x.nx, .int .i64 (x.nx + 1), .slice (some ⟨g, 0, none⟩) ((freeL x.ps).length + 1) ((freeL x.ps).length + 1)]) (by simp [results, Try.results6, go_sem, r0, r1, r2, r3]) rfl ⟨_, rfl, ((((FO.out.other (by simp; omega) _).other (by simp; omega) _).other (by simp; omega) _).other (by simp; omega) _).own, (((FB.out.setCell (by simp <;> omega) _).setCell (by simp <;> omega) _).setCell (by simp <;> omega) _).setCell (by simp <;> omega) _⟩
end Go.Proofs.Ytcjfaimhggckmaa
