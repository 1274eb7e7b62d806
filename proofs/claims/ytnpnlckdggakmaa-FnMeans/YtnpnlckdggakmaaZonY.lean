/-
  Zones: their fault (the program).
-/
import Derived.Test.YtnpnlckdggakmaaZonG
namespace Go.Proofs.Ytnpnlckdggakmaa
open Go.RowKit Pl
set_option linter.unusedSimpArgs false
set_option linter.unusedVariables false

set_option maxRecDepth 20000 in
set_option maxHeartbeats 16000000 in
theorem indexI_any (l : List Int) (v : Int) (a : Option Addr) (cap : Nat) (hl : l.length ≤ 1048576) (w : World) (hI : IIn w a l) :
    Calls Try.prog 78 #[.slice a l.length cap, .int .i64 v] w fun e w' => (∃ r : Int, e = .returned (.int .i64 r) ∧ decide (0 ≤ r) = hasI l v) ∧ w' = w := by
  have HI : Hid (IIn w a l) := hI
  clear hI
  obtain ⟨B, hB⟩ : ∃ B, hasI l v = B := ⟨_, rfl⟩
  rw [hB]
  have HB : Hid (hasI l v = B) := hB
  clear hB
  go_enter Try.func78, Try.ntmps78
  go_wp2_with fail
  go_loopw [8] (fun ii wr => ∃ i : Nat, ii = .int .i64 (i : Int) ∧ i ≤ l.length ∧ hasI (l.take i) v = false ∧ wr = w) (fun ii _ => l.length - (intOf ii).toNat)
  case atStart => exact ⟨0, rfl, by omega, rfl, rfl⟩
  case round =>
    obtain ⟨i, rfl, hi, ha, rfl⟩ := hrel
    have HA : Hid (hasI (l.take i) v = false) := ha
    clear ha
    by_cases hlt : i < l.length
    · obtain ⟨x, hx⟩ : ∃ x, l[i]? = some x := ⟨_, List.getElem?_eq_getElem hlt⟩
      rcases HI.out with h0 | ⟨g, rfl, hg, hc⟩
      · rw [h0] at hlt; simp at hlt
      have c0 := hc i x hx
      have HX : Hid (l[i]? = some x) := hx
      clear hx hc
      by_cases e : x = v
      · have d : (v == x) = true := by simp [e]
        have HE : Hid (true = B) := by show _ = B; rw [← HB.out]; exact (hasI_yes HX.out e).symm
        clear e
        go_wp2
        go_ret
        exact ⟨⟨_, rfl, by rw [← HE.out]; exact decide_eq_true (by omega)⟩, rfl⟩
      · have d : (v == x) = false := by simp; exact fun q => e q.symm
        have d2 : (x == v) = false := by simp [e]
        have HE : Hid (hasI (l.take (i + 1)) v = false) := by show _ = false; rw [hasI_take HX.out, HA.out, d2]; rfl
        clear e d2
        go_wp2_with fail
        go_roundw
        case rel => exact ⟨i + 1, by simp, by omega, HE.out, by first | rfl | trivial⟩
        case measure => simp [intOf]; omega
    · have e : i = l.length := by omega
      subst e
      have HE : Hid (false = B) := by show _ = B; rw [← HB.out, ← HA.out, List.take_length]
      go_wp2
      go_ret
      exact ⟨⟨_, rfl, by rw [← HE.out]; rfl⟩, rfl⟩
set_option maxRecDepth 20000 in
set_option maxHeartbeats 16000000 in
theorem containsI_any (l : List Int) (v : Int) (a : Option Addr) (cap : Nat) (hl : l.length ≤ 1048576) (w : World) (hI : IIn w a l) :
    Calls Try.prog 63 #[.slice a l.length cap, .int .i64 v] w fun e w' => e = .returned (.bool (hasI l v)) ∧ w' = w := by
  go_enter Try.func63, Try.ntmps63
  go_wp2_with (go_at_call 78; refine (indexI_any l v a cap hl _ hI).mono ?_; rintro e w' ⟨⟨r, rfl, hr⟩, hw⟩; obtain rfl := hw.symm; clear hw)
  go_ret
  exact ⟨by first | rfl | exact congrArg (fun z => Ending.returned (.bool z)) hr, rfl⟩
set_option maxRecDepth 20000 in
set_option maxHeartbeats 16000000 in
theorem implZones_any (h : Hs) (l : List Int) (a : Option Addr) (cap : Nat) (hl : l.length ≤ 1048576) (w : World) (hI : IIn w a l) :
    Calls Try.prog 43 #[.agg #[.int .i64 h.fl, .int .i64 h.gp, .int .i64 h.ln, .int .i64 h.rf, .int .i64 h.sp, .int .i64 h.pu, .int .i64 h.br, .int .i64 h.dr, .int .i64 h.lv, .int .i64 h.dO, .int .i64 h.ld, .int .i64 h.qu], .slice a l.length cap] w fun e w' => e = .returned (.int .i64 (h.znK l)) ∧ Below w.heap.size w w' := by
  have HI : Hid (IIn w a l) := hI
  clear hI
  obtain ⟨K, hK⟩ : ∃ K, h.znK l = K := ⟨_, rfl⟩
  rw [hK]
  have HK0 : Hid (h.znK l = K) := hK
  clear hK
  obtain ⟨b0, hb0⟩ : ∃ b0, b0 = w.heap.size := ⟨_, rfl⟩
  obtain ⟨W0, hW0⟩ : ∃ W0, W0 = w.alloc (.cells #[.int .i64 h.fl, .int .i64 h.gp, .int .i64 h.ln, .int .i64 h.rf, .int .i64 h.sp, .int .i64 h.pu, .int .i64 h.br, .int .i64 h.dr, .int .i64 h.lv, .int .i64 h.dO, .int .i64 h.ld, .int .i64 h.qu] 25) := ⟨_, rfl⟩
  have F0 : Hid (Blk W0 b0 [.int .i64 h.fl, .int .i64 h.gp, .int .i64 h.ln, .int .i64 h.rf, .int .i64 h.sp, .int .i64 h.pu, .int .i64 h.br, .int .i64 h.dr, .int .i64 h.lv, .int .i64 h.dO, .int .i64 h.ld, .int .i64 h.qu]) := by rw [hW0]; exact Blk.at_ w #[.int .i64 h.fl, .int .i64 h.gp, .int .i64 h.ln, .int .i64 h.rf, .int .i64 h.sp, .int .i64 h.pu, .int .i64 h.br, .int .i64 h.dr, .int .i64 h.lv, .int .i64 h.dO, .int .i64 h.ld, .int .i64 h.qu] _ _ hb0
  have FB : Hid (Below w.heap.size w W0) := by rw [hW0]; exact (Below.refl _ _).alloc (Nat.le_refl _) _
  have leb0 : w.heap.size ≤ b0 := by omega
  obtain ⟨kf, hkf⟩ : ∃ kf, h.fault = kf := ⟨_, rfl⟩
  have HF : Hid (h.fault = kf) := hkf
  clear hkf
  go_enter Try.func43, Try.ntmps43
  go_upto_region 1 with fail
  rw [← hb0, ← hW0]
  clear hb0 hW0
  go_upto_region 2 with (first | (refine load_blk 25 _ Try.underlying25 (by kernel_rfl) F0.out rfl rfl rfl ?_) | (go_at_call 35; refine (implFault_any h _).mono ?_; rw [HF.out]; rintro e w1 ⟨rfl, hb⟩; have F0 : Hid (Blk w1 b0 [.int .i64 h.fl, .int .i64 h.gp, .int .i64 h.ln, .int .i64 h.rf, .int .i64 h.sp, .int .i64 h.pu, .int .i64 h.br, .int .i64 h.dr, .int .i64 h.lv, .int .i64 h.dO, .int .i64 h.ld, .int .i64 h.qu]) := F0.out.below hb F0.out.lt; have FB : Hid (Below w.heap.size w w1) := FB.out.trans (hb.mono FB.out.size); clear hb))
  by_cases hz : kf = 0
  case neg =>
    have hn : (kf != 0) = true := by simpa using hz
    have HK : Hid (kf = K) := by show _ = K; rw [← HK0.out]; unfold Hs.znK; rw [HF.out, if_neg hz]
    go_wp2
    go_ret
    exact ⟨ret_int HK.out, FB.out⟩
  case pos =>
  subst hz
  obtain ⟨f1, f2⟩ := fl_of HF.out
  by_cases hn : 1 ≤ l.length ∧ l.length ≤ 6
  case neg =>
    have HK : Hid ((2 : Int) = K) := by show _ = K; rw [← HK0.out]; unfold Hs.znK; rw [HF.out, if_pos rfl, if_neg hn]
    have i1 : inB (l.length : Int) 1 6 = false := by
      cases q : inB (l.length : Int) 1 6 with
      | false => rfl
      | true => exact absurd (by have := inB_iff.1 q; omega) hn
    go_wp2_with (go_at_call 36; refine (isWithin_any _ _ _ _).mono ?_; rw [i1]; rintro e w' ⟨rfl, hw⟩; obtain rfl := hw.symm; clear hw)
    go_ret
    exact ⟨ret_int HK.out, FB.out⟩
  case pos =>
  have i1 : inB (l.length : Int) 1 6 = true := inB_iff.2 (by omega)
  go_upto_region 6 with (go_at_call 36; refine (isWithin_any _ _ _ _).mono ?_; rw [i1]; rintro e w' ⟨rfl, hw⟩; obtain rfl := hw.symm; clear hw)
  clear i1
  go_wp2_with fail
  go_loopw [19] (fun ii wr => ∃ i : Nat, ii = .int .i64 (i : Int) ∧ i ≤ l.length ∧ h.allR (l.take i) = true ∧ Blk wr b0 [.int .i64 h.fl, .int .i64 h.gp, .int .i64 h.ln, .int .i64 h.rf, .int .i64 h.sp, .int .i64 h.pu, .int .i64 h.br, .int .i64 h.dr, .int .i64 h.lv, .int .i64 h.dO, .int .i64 h.ld, .int .i64 h.qu] ∧ Below w.heap.size w wr) (fun ii _ => l.length - (intOf ii).toNat)
  case atStart => exact ⟨0, rfl, by omega, rfl, F0.out, FB.out⟩
  case round =>
    obtain ⟨i, rfl, hi, ha, hf0, hb⟩ := hrel
    have F0 : Hid (Blk wr b0 [.int .i64 h.fl, .int .i64 h.gp, .int .i64 h.ln, .int .i64 h.rf, .int .i64 h.sp, .int .i64 h.pu, .int .i64 h.br, .int .i64 h.dr, .int .i64 h.lv, .int .i64 h.dO, .int .i64 h.ld, .int .i64 h.qu]) := hf0
    have FB : Hid (Below w.heap.size w wr) := hb
    have HA : Hid (h.allR (l.take i) = true) := ha
    clear hf0 hb ha
    by_cases hlt : i < l.length
    · obtain ⟨x, hx⟩ : ∃ x, l[i]? = some x := ⟨_, List.getElem?_eq_getElem hlt⟩
      have HX : Hid (l[i]? = some x) := hx
      rcases HI.out with h0 | ⟨g, rfl, hg, hc⟩
      · rw [h0] at hlt; simp at hlt
      have FC : Hid (One wr g i x) := ⟨(FB.out.cell (p := ⟨g, i, none⟩) hg).trans (hc i x hx)⟩
      clear hx hc
      cases hR : h.right x
      · have hFl := allR_no (h := h) HX.out hR
        have HK : Hid ((3 : Int) = K) := by show _ = K; rw [← HK0.out]; unfold Hs.znK; rw [HF.out, if_pos rfl, if_pos hn, hFl]; rfl
        have c0 := FC.out.c
        go_wp2_with (first | (refine load_blk 25 _ Try.underlying25 (by kernel_rfl) F0.out rfl rfl rfl ?_) | (go_at_call 62; refine (isMask_any h x f1 f2 _).mono ?_; rw [hR]; rintro e w5 ⟨rfl, hb⟩; have F0 : Hid (Blk w5 b0 [.int .i64 h.fl, .int .i64 h.gp, .int .i64 h.ln, .int .i64 h.rf, .int .i64 h.sp, .int .i64 h.pu, .int .i64 h.br, .int .i64 h.dr, .int .i64 h.lv, .int .i64 h.dO, .int .i64 h.ld, .int .i64 h.qu]) := F0.out.below hb F0.out.lt; have FB : Hid (Below w.heap.size w w5) := FB.out.trans (hb.mono FB.out.size); clear hb))
        go_ret
        exact ⟨ret_int HK.out, FB.out⟩
      · have HT : Hid (h.allR (l.take (i + 1)) = true) := by show _ = true; rw [allR_take HX.out, HA.out, hR]; rfl
        have c0 := FC.out.c
        go_wp2_with (first | (refine load_blk 25 _ Try.underlying25 (by kernel_rfl) F0.out rfl rfl rfl ?_) | (go_at_call 62; refine (isMask_any h x f1 f2 _).mono ?_; rw [hR]; rintro e w5 ⟨rfl, hb⟩; have F0 : Hid (Blk w5 b0 [.int .i64 h.fl, .int .i64 h.gp, .int .i64 h.ln, .int .i64 h.rf, .int .i64 h.sp, .int .i64 h.pu, .int .i64 h.br, .int .i64 h.dr, .int .i64 h.lv, .int .i64 h.dO, .int .i64 h.ld, .int .i64 h.qu]) := F0.out.below hb F0.out.lt; have FB : Hid (Below w.heap.size w w5) := FB.out.trans (hb.mono FB.out.size); clear hb))
        go_roundw
        case rel => exact ⟨i + 1, by simp, by omega, HT.out, F0.out, FB.out⟩
        case measure => simp [intOf]; omega
    · have e : i = l.length := by omega
      subst e
      have HT : Hid (h.allR l = true) := by show _ = true; rw [← HA.out, List.take_length]
      clear HA
      cases hH : hasI l 0
      · have HK : Hid ((0 : Int) = K) := by show _ = K; rw [← HK0.out]; unfold Hs.znK; rw [HF.out, if_pos rfl, if_pos hn, if_pos HT.out, hH]; rfl
        go_wp2_with (go_at_call 63; refine (containsI_any l 0 a cap hl _ (HI.out.below FB.out)).mono ?_; rw [hH]; rintro e w' ⟨rfl, hw⟩; obtain rfl := hw.symm; clear hw)
        go_ret
        exact ⟨ret_int HK.out, FB.out⟩
      · have HK : Hid ((1 : Int) = K) := by show _ = K; rw [← HK0.out]; unfold Hs.znK; rw [HF.out, if_pos rfl, if_pos hn, if_pos HT.out, hH]; rfl
        go_wp2_with (go_at_call 63; refine (containsI_any l 0 a cap hl _ (HI.out.below FB.out)).mono ?_; rw [hH]; rintro e w' ⟨rfl, hw⟩; obtain rfl := hw.symm; clear hw)
        go_ret
        exact ⟨ret_int HK.out, FB.out⟩
end Go.Proofs.Ytnpnlckdggakmaa
