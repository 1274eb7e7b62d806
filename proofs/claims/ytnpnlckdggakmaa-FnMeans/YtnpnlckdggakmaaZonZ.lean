/-
  Zones: their fault (the model).
-/
import Derived.Test.YtnpnlckdggakmaaZonA
import Derived.Deep.RegionHeld3
namespace Go.Proofs.Ytnpnlckdggakmaa
open Go.RowKit Pl
set_option linter.unusedSimpArgs false
set_option linter.unusedVariables false

set_option maxRecDepth 20000 in
set_option maxHeartbeats 16000000 in
theorem l1Has_any (l : List Int) (v : Int) (a : Option Addr) (cap : Nat) (hl : l.length ≤ 1048576) (w : World) (hI : IIn w a l) :
    Calls Try.prog 71 #[.slice a l.length cap, .int .i64 v] w fun e w' => e = .returned (.bool (hasI l v)) ∧ w' = w := by
  have HI : Hid (IIn w a l) := hI
  clear hI
  obtain ⟨B, hB⟩ : ∃ B, hasI l v = B := ⟨_, rfl⟩
  rw [hB]
  have HB : Hid (hasI l v = B) := hB
  clear hB
  go_enter Try.func71, Try.ntmps71
  go_wp2_with fail
  go_loopw [5] (fun ii wr => ∃ i : Nat, ii = .int .i64 (i : Int) ∧ i ≤ l.length ∧ hasI (l.take i) v = false ∧ wr = w) (fun ii _ => l.length - (intOf ii).toNat)
  case atStart => exact ⟨0, rfl, by omega, rfl, rfl⟩
  case round =>
    obtain ⟨i, rfl, hi, ha, rfl⟩ := hrel
    have HA : Hid (hasI (l.take i) v = false) := ha
    clear ha
    by_cases hlt : i < l.length
    · obtain ⟨x, hx⟩ : ∃ x, l[i]? = some x := ⟨_, List.getElem?_eq_getElem hlt⟩
      rcases HI.out with h0 | ⟨g, rfl, hg, hc⟩
      · rw [h0] at hlt; simp at hlt
      have c0 := hc i x hx
      have HX : Hid (l[i]? = some x) := hx
      clear hx hc
      by_cases e : x = v
      · have d : (x == v) = true := by simp [e]
        have HE : Hid (true = B) := by show _ = B; rw [← HB.out]; exact (hasI_yes HX.out e).symm
        clear e
        go_wp2
        go_ret
        exact ⟨congrArg (fun z => Ending.returned (.bool z)) HE.out, rfl⟩
      · have d : (x == v) = false := by simp [e]
        have HE : Hid (hasI (l.take (i + 1)) v = false) := by show _ = false; rw [hasI_take HX.out, HA.out, d]; rfl
        clear e
        go_wp2_with fail
        go_roundw
        case rel => exact ⟨i + 1, by simp, by omega, HE.out, by first | rfl | trivial⟩
        case measure => simp [intOf]; omega
    · have e : i = l.length := by omega
      subst e
      have HE : Hid (false = B) := by show _ = B; rw [← HB.out, ← HA.out, List.take_length]
      go_wp2
      go_ret
      exact ⟨congrArg (fun z => Ending.returned (.bool z)) HE.out, rfl⟩
set_option maxRecDepth 20000 in
set_option maxHeartbeats 16000000 in
theorem specZones_any (h : Hs) (l : List Int) (a : Option Addr) (cap : Nat) (hl : l.length ≤ 1048576) (w : World) (hI : IIn w a l) :
    Calls Try.prog 54 #[.agg #[.int .i64 h.fl, .int .i64 h.gp, .int .i64 h.ln, .int .i64 h.rf, .int .i64 h.sp, .int .i64 h.pu, .int .i64 h.br, .int .i64 h.dr, .int .i64 h.lv, .int .i64 h.dO, .int .i64 h.ld, .int .i64 h.qu], .slice a l.length cap] w fun e w' => e = .returned (.int .i64 (h.znK l)) ∧ Below w.heap.size w w' := by
  have HI : Hid (IIn w a l) := hI
  clear hI
  obtain ⟨K, hK⟩ : ∃ K, h.znK l = K := ⟨_, rfl⟩
  rw [hK]
  have HK0 : Hid (h.znK l = K) := hK
  clear hK
  obtain ⟨b0, hb0⟩ : ∃ b0, b0 = w.heap.size := ⟨_, rfl⟩
  obtain ⟨W0, hW0⟩ : ∃ W0, W0 = w.alloc (.cells #[.int .i64 h.fl, .int .i64 h.gp, .int .i64 h.ln, .int .i64 h.rf, .int .i64 h.sp, .int .i64 h.pu, .int .i64 h.br, .int .i64 h.dr, .int .i64 h.lv, .int .i64 h.dO, .int .i64 h.ld, .int .i64 h.qu] 25) := ⟨_, rfl⟩
  have F0 : Hid (Blk W0 b0 [.int .i64 h.fl, .int .i64 h.gp, .int .i64 h.ln, .int .i64 h.rf, .int .i64 h.sp, .int .i64 h.pu, .int .i64 h.br, .int .i64 h.dr, .int .i64 h.lv, .int .i64 h.dO, .int .i64 h.ld, .int .i64 h.qu]) := by rw [hW0]; exact Blk.at_ w #[.int .i64 h.fl, .int .i64 h.gp, .int .i64 h.ln, .int .i64 h.rf, .int .i64 h.sp, .int .i64 h.pu, .int .i64 h.br, .int .i64 h.dr, .int .i64 h.lv, .int .i64 h.dO, .int .i64 h.ld, .int .i64 h.qu] _ _ hb0
  have FB : Hid (Below w.heap.size w W0) := by rw [hW0]; exact (Below.refl _ _).alloc (Nat.le_refl _) _
  have leb0 : w.heap.size ≤ b0 := by omega
  obtain ⟨kf, hkf⟩ : ∃ kf, h.fault = kf := ⟨_, rfl⟩
  have HF : Hid (h.fault = kf) := hkf
  clear hkf
  go_enter Try.func54, Try.ntmps54
  go_upto_region 1 with fail
  rw [← hb0, ← hW0]
  clear hb0 hW0
  go_upto_region 2 with (first | (refine load_blk 25 _ Try.underlying25 (by kernel_rfl) F0.out rfl rfl rfl ?_) | (go_at_call 40; refine (specFault_any h _).mono ?_; rw [HF.out]; rintro e w1 ⟨rfl, hb⟩; have F0 : Hid (Blk w1 b0 [.int .i64 h.fl, .int .i64 h.gp, .int .i64 h.ln, .int .i64 h.rf, .int .i64 h.sp, .int .i64 h.pu, .int .i64 h.br, .int .i64 h.dr, .int .i64 h.lv, .int .i64 h.dO, .int .i64 h.ld, .int .i64 h.qu]) := F0.out.below hb F0.out.lt; have FB : Hid (Below w.heap.size w w1) := FB.out.trans (hb.mono FB.out.size); clear hb))
  by_cases hz : kf = 0
  case neg =>
    have hn : (kf != 0) = true := by simpa using hz
    have HK : Hid (kf = K) := by show _ = K; rw [← HK0.out]; unfold Hs.znK; rw [HF.out, if_neg hz]
    go_wp2
    go_ret
    exact ⟨ret_int HK.out, FB.out⟩
  case pos =>
  subst hz
  obtain ⟨f1, f2⟩ := fl_of HF.out
  by_cases hn : 1 ≤ l.length ∧ l.length ≤ 6
  case neg =>
    have HK : Hid ((2 : Int) = K) := by show _ = K; rw [← HK0.out]; unfold Hs.znK; rw [HF.out, if_pos rfl, if_neg hn]
    by_cases h1 : l.length < 1
    · have d1 : decide ((l.length : Int) < 1) = true := decide_eq_true (by omega)
      go_wp2
      go_ret
      exact ⟨ret_int HK.out, FB.out⟩
    · have d1 : decide ((l.length : Int) < 1) = false := decide_eq_false (by omega)
      have d2 : decide ((6 : Int) < (l.length : Int)) = true := decide_eq_true (by omega)
      go_wp2
      go_ret
      exact ⟨ret_int HK.out, FB.out⟩
  case pos =>
  have d1 : decide ((l.length : Int) < 1) = false := decide_eq_false (by omega)
  have d2 : decide ((6 : Int) < (l.length : Int)) = false := decide_eq_false (by omega)
  go_upto_region 6 with fail
  clear d1 d2
  go_wp2_with fail
  go_loopw [6] (fun ii wr => ∃ i : Nat, ii = .int .i64 (i : Int) ∧ i ≤ l.length ∧ h.allR (l.take i) = true ∧ Blk wr b0 [.int .i64 h.fl, .int .i64 h.gp, .int .i64 h.ln, .int .i64 h.rf, .int .i64 h.sp, .int .i64 h.pu, .int .i64 h.br, .int .i64 h.dr, .int .i64 h.lv, .int .i64 h.dO, .int .i64 h.ld, .int .i64 h.qu] ∧ Below w.heap.size w wr) (fun ii _ => l.length - (intOf ii).toNat)
  case atStart => exact ⟨0, rfl, by omega, rfl, F0.out, FB.out⟩
  case round =>
    obtain ⟨i, rfl, hi, ha, hf0, hb⟩ := hrel
    have F0 : Hid (Blk wr b0 [.int .i64 h.fl, .int .i64 h.gp, .int .i64 h.ln, .int .i64 h.rf, .int .i64 h.sp, .int .i64 h.pu, .int .i64 h.br, .int .i64 h.dr, .int .i64 h.lv, .int .i64 h.dO, .int .i64 h.ld, .int .i64 h.qu]) := hf0
    have FB : Hid (Below w.heap.size w wr) := hb
    have HA : Hid (h.allR (l.take i) = true) := ha
    clear hf0 hb ha
    by_cases hlt : i < l.length
    · obtain ⟨x, hx⟩ : ∃ x, l[i]? = some x := ⟨_, List.getElem?_eq_getElem hlt⟩
      have HX : Hid (l[i]? = some x) := hx
      rcases HI.out with h0 | ⟨g, rfl, hg, hc⟩
      · rw [h0] at hlt; simp at hlt
      have FC : Hid (One wr g i x) := ⟨(FB.out.cell (p := ⟨g, i, none⟩) hg).trans (hc i x hx)⟩
      clear hx hc
      cases hR : h.right x
      · have hFl := allR_no (h := h) HX.out hR
        have HK : Hid ((3 : Int) = K) := by show _ = K; rw [← HK0.out]; unfold Hs.znK; rw [HF.out, if_pos rfl, if_pos hn, hFl]; rfl
        go_wp2_with fail
        have F0 : Hid (Blk wr.drew b0 [.int .i64 h.fl, .int .i64 h.gp, .int .i64 h.ln, .int .i64 h.rf, .int .i64 h.sp, .int .i64 h.pu, .int .i64 h.br, .int .i64 h.dr, .int .i64 h.lv, .int .i64 h.dO, .int .i64 h.ld, .int .i64 h.qu]) := F0.out.below (Below.refl _ _).drew F0.out.lt
        have FC : Hid (One wr.drew g i x) := FC.out.below (Below.refl _ _).drew FC.out.lt
        have FB : Hid (Below w.heap.size w wr.drew) := FB.out.drew
        have m0 := FC.out.c
        refine wp_region_held_drew (S := (fun w'' => Blk w'' b0 ([.int .i64 h.fl, .int .i64 h.gp, .int .i64 h.ln, .int .i64 h.rf, .int .i64 h.sp, .int .i64 h.pu, .int .i64 h.br, .int .i64 h.dr, .int .i64 h.lv, .int .i64 h.dO, .int .i64 h.ld, .int .i64 h.qu]) ∧ w''.cell? ⟨g, i, none⟩ = some (.int .i64 x))) (by kernel_rfl) (by (try dsimp only); first | exact ⟨F0.out, m0⟩ | go_keep) (fun hHeld => ?_)
        obtain ⟨v_1, hw1⟩ : ∃ v_1, v_1 = wr.drew := ⟨_, rfl⟩
        have F0 : Hid (Blk v_1 b0 [.int .i64 h.fl, .int .i64 h.gp, .int .i64 h.ln, .int .i64 h.rf, .int .i64 h.sp, .int .i64 h.pu, .int .i64 h.br, .int .i64 h.dr, .int .i64 h.lv, .int .i64 h.dO, .int .i64 h.ld, .int .i64 h.qu]) := by rw [hw1]; exact F0.out
        have FC : Hid (One v_1 g i x) := by rw [hw1]; exact FC.out
        have FB : Hid (Below w.heap.size w v_1) := by rw [hw1]; exact FB.out
        rw [← hw1] at hHeld ⊢
        clear hw1
        have m0 := FC.out.c
        refine tkz 0 rfl ?_ (hy := Or.inl ⟨by kernel_rfl, fun wx hSw => exec_load_blk 25 _ Try.underlying25 (by kernel_rfl) rfl rfl hSw.1⟩)
        refine tkz 1 rfl ?_
        refine tkz 2 rfl ?_
        refine tkz 3 rfl ?_
        refine tkz 4 rfl ?_
        refine wpAnyH_ready (rs := [5]) (by kernel_rfl) (by simp) ?_
        refine (AllReadyH.cons rfl (fun K hK => ?_) AllReadyH.nil)
        go_simp
        refine (l12Right_any h x f1 f2 _).mono ?_
        rintro e v_2 ⟨rfl, hb⟩
        have F0 : Hid (Blk v_2 b0 [.int .i64 h.fl, .int .i64 h.gp, .int .i64 h.ln, .int .i64 h.rf, .int .i64 h.sp, .int .i64 h.pu, .int .i64 h.br, .int .i64 h.dr, .int .i64 h.lv, .int .i64 h.dO, .int .i64 h.ld, .int .i64 h.qu]) := F0.out.below hb F0.out.lt
        have FC : Hid (One v_2 g i x) := FC.out.below hb FC.out.lt
        have FB : Hid (Below w.heap.size w v_2) := FB.out.trans (hb.mono FB.out.size)
        clear hb
        have m0 := FC.out.c
        try dsimp only
        refine hK.out _ _ (by (try dsimp only); first | exact ⟨F0.out, m0⟩ | go_keep) (fun hHeld => ?_)
        clear hK K
        try simp only [Act.put, List.getElem_toArray, List.getElem_cons_succ, List.getElem_cons_zero, List.setIfInBounds_toArray, List.set_cons_zero, List.set_cons_succ]
        refine tkz 6 rfl ?_
        refine wpAnyH_done (by kernel_rfl) ?_ _
        go_wp2_with fail
        go_ret
        exact ⟨ret_int HK.out, FB.out⟩
      · have HT : Hid (h.allR (l.take (i + 1)) = true) := by show _ = true; rw [allR_take HX.out, HA.out, hR]; rfl
        go_wp2_with fail
        have F0 : Hid (Blk wr.drew b0 [.int .i64 h.fl, .int .i64 h.gp, .int .i64 h.ln, .int .i64 h.rf, .int .i64 h.sp, .int .i64 h.pu, .int .i64 h.br, .int .i64 h.dr, .int .i64 h.lv, .int .i64 h.dO, .int .i64 h.ld, .int .i64 h.qu]) := F0.out.below (Below.refl _ _).drew F0.out.lt
        have FC : Hid (One wr.drew g i x) := FC.out.below (Below.refl _ _).drew FC.out.lt
        have FB : Hid (Below w.heap.size w wr.drew) := FB.out.drew
        have m0 := FC.out.c
        refine wp_region_held_drew (S := (fun w'' => Blk w'' b0 ([.int .i64 h.fl, .int .i64 h.gp, .int .i64 h.ln, .int .i64 h.rf, .int .i64 h.sp, .int .i64 h.pu, .int .i64 h.br, .int .i64 h.dr, .int .i64 h.lv, .int .i64 h.dO, .int .i64 h.ld, .int .i64 h.qu]) ∧ w''.cell? ⟨g, i, none⟩ = some (.int .i64 x))) (by kernel_rfl) (by (try dsimp only); first | exact ⟨F0.out, m0⟩ | go_keep) (fun hHeld => ?_)
        obtain ⟨v_3, hw1⟩ : ∃ v_3, v_3 = wr.drew := ⟨_, rfl⟩
        have F0 : Hid (Blk v_3 b0 [.int .i64 h.fl, .int .i64 h.gp, .int .i64 h.ln, .int .i64 h.rf, .int .i64 h.sp, .int .i64 h.pu, .int .i64 h.br, .int .i64 h.dr, .int .i64 h.lv, .int .i64 h.dO, .int .i64 h.ld, .int .i64 h.qu]) := by rw [hw1]; exact F0.out
        have FC : Hid (One v_3 g i x) := by rw [hw1]; exact FC.out
        have FB : Hid (Below w.heap.size w v_3) := by rw [hw1]; exact FB.out
        rw [← hw1] at hHeld ⊢
        clear hw1
        have m0 := FC.out.c
        refine tkz 0 rfl ?_ (hy := Or.inl ⟨by kernel_rfl, fun wx hSw => exec_load_blk 25 _ Try.underlying25 (by kernel_rfl) rfl rfl hSw.1⟩)
        refine tkz 1 rfl ?_
        refine tkz 2 rfl ?_
        refine tkz 3 rfl ?_
        refine tkz 4 rfl ?_
        refine wpAnyH_ready (rs := [5]) (by kernel_rfl) (by simp) ?_
        refine (AllReadyH.cons rfl (fun K hK => ?_) AllReadyH.nil)
        go_simp
        refine (l12Right_any h x f1 f2 _).mono ?_
        rintro e v_4 ⟨rfl, hb⟩
        have F0 : Hid (Blk v_4 b0 [.int .i64 h.fl, .int .i64 h.gp, .int .i64 h.ln, .int .i64 h.rf, .int .i64 h.sp, .int .i64 h.pu, .int .i64 h.br, .int .i64 h.dr, .int .i64 h.lv, .int .i64 h.dO, .int .i64 h.ld, .int .i64 h.qu]) := F0.out.below hb F0.out.lt
        have FC : Hid (One v_4 g i x) := FC.out.below hb FC.out.lt
        have FB : Hid (Below w.heap.size w v_4) := FB.out.trans (hb.mono FB.out.size)
        clear hb
        have m0 := FC.out.c
        try dsimp only
        refine hK.out _ _ (by (try dsimp only); first | exact ⟨F0.out, m0⟩ | go_keep) (fun hHeld => ?_)
        clear hK K
        try simp only [Act.put, List.getElem_toArray, List.getElem_cons_succ, List.getElem_cons_zero, List.setIfInBounds_toArray, List.set_cons_zero, List.set_cons_succ]
        refine tkz 6 rfl ?_
        refine wpAnyH_done (by kernel_rfl) ?_ _
        go_wp2_with fail
        go_roundw
        case rel => exact ⟨i + 1, by simp, by omega, HT.out, F0.out, FB.out⟩
        case measure => simp [intOf]; omega
    · have e : i = l.length := by omega
      subst e
      have HT : Hid (h.allR l = true) := by show _ = true; rw [← HA.out, List.take_length]
      clear HA
      cases hH : hasI l 0
      · have HK : Hid ((0 : Int) = K) := by show _ = K; rw [← HK0.out]; unfold Hs.znK; rw [HF.out, if_pos rfl, if_pos hn, if_pos HT.out, hH]; rfl
        go_wp2_with (go_at_call 71; refine (l1Has_any l 0 a cap hl _ (HI.out.below FB.out)).mono ?_; rw [hH]; rintro e w' ⟨rfl, hw⟩; obtain rfl := hw.symm; clear hw)
        go_ret
        exact ⟨ret_int HK.out, FB.out⟩
      · have HK : Hid ((1 : Int) = K) := by show _ = K; rw [← HK0.out]; unfold Hs.znK; rw [HF.out, if_pos rfl, if_pos hn, if_pos HT.out, hH]; rfl
        go_wp2_with (go_at_call 71; refine (l1Has_any l 0 a cap hl _ (HI.out.below FB.out)).mono ?_; rw [hH]; rintro e w' ⟨rfl, hw⟩; obtain rfl := hw.symm; clear hw)
        go_ret
        exact ⟨ret_int HK.out, FB.out⟩
end Go.Proofs.Ytnpnlckdggakmaa
