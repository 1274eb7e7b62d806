/-
  The house that the bytes bend: some house, and nothing that was there has turned.
-/
import Derived.Test.YtoacnglcneliiaaGreatDoorHouseD
import Derived.Deep.RegionWith
namespace Go.Proofs.YtoacnglcneliiaaGreatDoor
open Go.RowKit Pl

set_option maxHeartbeats 16000000 in
theorem l2BentB_src (sb B : Nat) (a : Option Addr) (len cap t : Nat) (w : World) (h : Src w sb B a len cap t) (ht : t ≤ 800000) :
    Calls Tryz.prog 25 #[.pointer (some ⟨sb, 0, none⟩)] w fun e w' => ∃ h : Hs, ∃ t', e = .returned (.agg #[.int .i64 h.fl, .int .i64 h.gp, .int .i64 h.ln, .int .i64 h.rf, .int .i64 h.sp, .int .i64 h.pu, .int .i64 h.br, .int .i64 h.dr, .int .i64 h.lv, .int .i64 h.dO, .int .i64 h.ld, .int .i64 h.qu]) ∧ t' ≤ t + 60 ∧ Src w' sb B a len cap t' ∧ Keeps sb w w' ∧ (0 ≤ h.ld ∧ h.ld ≤ 21) ∧ (1 ≤ h.fl ∧ h.fl ≤ 13) := by
  have hsbw := h.lt
  have hBsb := h.hB
  have HS0 : Hid (Src (w.alloc (.cells #[.int .i64 0, .int .i64 0, .int .i64 0, .int .i64 0, .int .i64 0, .int .i64 0, .int .i64 0, .int .i64 0, .int .i64 0, .int .i64 0, .int .i64 0, .int .i64 0] 25)) sb B a len cap t) := h.alloc _
  have HK0 : Hid (Keeps sb w (w.alloc (.cells #[.int .i64 0, .int .i64 0, .int .i64 0, .int .i64 0, .int .i64 0, .int .i64 0, .int .i64 0, .int .i64 0, .int .i64 0, .int .i64 0, .int .i64 0, .int .i64 0] 25))) := (Keeps.refl _ _).alloc _
  have HR0 : Hid (HW (w.alloc (.cells #[.int .i64 0, .int .i64 0, .int .i64 0, .int .i64 0, .int .i64 0, .int .i64 0, .int .i64 0, .int .i64 0, .int .i64 0, .int .i64 0, .int .i64 0, .int .i64 0] 25)) w.heap.size (⟨0, 0, 0, 0, 0, 0, 0, 0, 0, 0, 0, 0⟩ : Hs)) := HW.new w (⟨0, 0, 0, 0, 0, 0, 0, 0, 0, 0, 0, 0⟩ : Hs) _
  clear h
  go_enter Tryz.func25, Tryz.ntmps25
  go_wp2_with fail
  refine (l2House_src sb B a len cap _ _ HS0.out (by omega)).mono ?_
  rintro e w1 ⟨h, t1, rfl, hsm, ht1, hs, hk⟩
  have hw1 : sb < w1.heap.size := hs.lt
  have HR1x : Hid (HW w1 w.heap.size (⟨0, 0, 0, 0, 0, 0, 0, 0, 0, 0, 0, 0⟩ : Hs)) := HR0.out.keeps hk (by omega)
  have hw2 : w.heap.size < w1.heap.size := HR1x.out.lt
  have HS1 : Hid (Src (w1.alloc (.cells #[.int .i64 h.fl, .int .i64 h.gp, .int .i64 h.ln, .int .i64 h.rf, .int .i64 h.sp, .int .i64 h.pu, .int .i64 h.br, .int .i64 h.dr, .int .i64 h.lv, .int .i64 h.dO, .int .i64 h.ld, .int .i64 h.qu] 25)) sb B a len cap t1) := hs.alloc _
  have HK1 : Hid (Keeps sb w (w1.alloc (.cells #[.int .i64 h.fl, .int .i64 h.gp, .int .i64 h.ln, .int .i64 h.rf, .int .i64 h.sp, .int .i64 h.pu, .int .i64 h.br, .int .i64 h.dr, .int .i64 h.lv, .int .i64 h.dO, .int .i64 h.ld, .int .i64 h.qu] 25))) := (HK0.out.trans hk).alloc _
  have HR1 : Hid (HW (w1.alloc (.cells #[.int .i64 h.fl, .int .i64 h.gp, .int .i64 h.ln, .int .i64 h.rf, .int .i64 h.sp, .int .i64 h.pu, .int .i64 h.br, .int .i64 h.dr, .int .i64 h.lv, .int .i64 h.dO, .int .i64 h.ld, .int .i64 h.qu] 25)) w.heap.size (⟨0, 0, 0, 0, 0, 0, 0, 0, 0, 0, 0, 0⟩ : Hs)) := HR1x.out.alloc _
  have HN1 : Hid (HW (w1.alloc (.cells #[.int .i64 h.fl, .int .i64 h.gp, .int .i64 h.ln, .int .i64 h.rf, .int .i64 h.sp, .int .i64 h.pu, .int .i64 h.br, .int .i64 h.dr, .int .i64 h.lv, .int .i64 h.dO, .int .i64 h.ld, .int .i64 h.qu] 25)) w1.heap.size h) := HW.new w1 h _
  have HM : Hid (Small h) := hsm
  have HLD : Hid (0 ≤ h.ld ∧ h.ld ≤ 21) := by have a := hsm.ld1; have b := hsm.ld2; exact ⟨by omega, by omega⟩
  have HFL : Hid (1 ≤ h.fl ∧ h.fl ≤ 13) := by have a := hsm.fl1; have b := hsm.fl2; exact ⟨by omega, by omega⟩
  clear hs hk hsm HS0 HK0 HR0 HR1x
  go_wp2_with fail
  refine (l1Next_src sb B a len cap _ _ _ HS1.out (by omega) (by omega) (by omega)).mono ?_
  rintro e w2 ⟨v, rfl, hv, hs, hk⟩
  have HS2 : Hid (Src w2 sb B a len cap (t1 + 1)) := hs
  have HK2 : Hid (Keeps sb w w2) := HK1.out.trans hk
  have HR2 : Hid (HW w2 w.heap.size (⟨0, 0, 0, 0, 0, 0, 0, 0, 0, 0, 0, 0⟩ : Hs)) := HR1.out.keeps hk (by omega)
  have HN2 : Hid (HW w2 w1.heap.size h) := HN1.out.keeps hk (by omega)
  clear hs hk HS1 HK1 HR1 HN1
  have hne : w1.heap.size ≠ w.heap.size := by omega
  by_cases h12 : 12 ≤ v
  · have b0 : ((v : Int) == 0) = false := by simp; omega
    have b1 : ((v : Int) == 1) = false := by simp; omega
    have b2 : ((v : Int) == 2) = false := by simp; omega
    have b3 : ((v : Int) == 3) = false := by simp; omega
    have b4 : ((v : Int) == 4) = false := by simp; omega
    have b5 : ((v : Int) == 5) = false := by simp; omega
    have b6 : ((v : Int) == 6) = false := by simp; omega
    have b7 : ((v : Int) == 7) = false := by simp; omega
    have b8 : ((v : Int) == 8) = false := by simp; omega
    have b9 : ((v : Int) == 9) = false := by simp; omega
    have b10 : ((v : Int) == 10) = false := by simp; omega
    have b11 : ((v : Int) == 11) = false := by simp; omega
    obtain ⟨c0, c1, c2, c3, c4, c5, c6, c7, c8, c9, c10, c11, f0, f1, f2, f3, f4, f5, f6, f7, f8, f9, f10, f11⟩ := HN2.out
    obtain ⟨d0, d1, d2, d3, d4, d5, d6, d7, d8, d9, d10, d11, e0, e1, e2, e3, e4, e5, e6, e7, e8, e9, e10, e11⟩ := HR2.out
    try dsimp only at d0 d1 d2 d3 d4 d5 d6 d7 d8 d9 d10 d11
    go_wp2_with fail
    clear c0 c1 c2 c3 c4 c5 c6 c7 c8 c9 c10 c11 f0 f1 f2 f3 f4 f5 f6 f7 f8 f9 f10 f11
    clear d0 d1 d2 d3 d4 d5 d6 d7 d8 d9 d10 d11 e0 e1 e2 e3 e4 e5 e6 e7 e8 e9 e10 e11
    change bodyPost _ _ _ _ _ (putH w2 w.heap.size h)
    obtain ⟨Wf, hWf⟩ : ∃ Wf, putH w2 w.heap.size h = Wf := ⟨_, rfl⟩
    have HRf : HW Wf w.heap.size h := hWf ▸ HW.put (HR2.out) _
    have HSf : Src Wf sb B a len cap (t1 + 1) := hWf ▸ Src.put (HS2.out) _ _ (by omega) (by omega)
    have HKf : Keeps sb w Wf := hWf ▸ Keeps.put (HK2.out) (Nat.le_refl _) _
    rw [hWf]
    clear hWf
    obtain ⟨d0, d1, d2, d3, d4, d5, d6, d7, d8, d9, d10, d11, e0, e1, e2, e3, e4, e5, e6, e7, e8, e9, e10, e11⟩ := HRf
    try dsimp only at d0 d1 d2 d3 d4 d5 d6 d7 d8 d9 d10 d11
    exact bodyPost_ret (v := .agg #[.int .i64 (h.fl), .int .i64 (h.gp), .int .i64 (h.ln), .int .i64 (h.rf), .int .i64 (h.sp), .int .i64 (h.pu), .int .i64 (h.br), .int .i64 (h.dr), .int .i64 (h.lv), .int .i64 (h.dO), .int .i64 (h.ld), .int .i64 (h.qu)]) (by simp [results, Tryz.results25, go_sem, d0, d1, d2, d3, d4, d5, d6, d7, d8, d9, d10, d11]) rfl ⟨h, _, rfl, (by omega : t1 + 1 ≤ t + 60), HSf, HKf, HLD.out, HFL.out⟩
  · have hvs : v = 0 ∨ v = 1 ∨ v = 2 ∨ v = 3 ∨ v = 4 ∨ v = 5 ∨ v = 6 ∨ v = 7 ∨ v = 8 ∨ v = 9 ∨ v = 10 ∨ v = 11 := by omega
    clear hv h12
    have hsp1 := HM.out.sp1; have hsp2 := HM.out.sp2; have hpu1 := HM.out.pu1; have hpu2 := HM.out.pu2
    rcases hvs with rfl | rfl | rfl | rfl | rfl | rfl | rfl | rfl | rfl | rfl | rfl | rfl
    · obtain ⟨c0, c1, c2, c3, c4, c5, c6, c7, c8, c9, c10, c11, f0, f1, f2, f3, f4, f5, f6, f7, f8, f9, f10, f11⟩ := HN2.out
      go_wp2_with fail
      clear c0 c1 c2 c3 c4 c5 c6 c7 c8 c9 c10 c11 f0 f1 f2 f3 f4 f5 f6 f7 f8 f9 f10 f11
      refine (l1Pick_at sb B 2 [1, 12, 13] (fun y => 1 ≤ y ∧ y ≤ 13) (by intro y hy; simp at hy; omega) a len cap _ _ _ (by simp) HS2.out (by omega) (by simp) (by simp)).mono ?_
      rintro e w3 ⟨x, rfl, hxx, hs, hk⟩
      have HS3 : Hid (Src w3 sb B a len cap (t1 + 1 + 1)) := hs
      have HK3 : Hid (Keeps sb w w3) := HK2.out.trans hk
      have HR3 : Hid (HW w3 w.heap.size (⟨0, 0, 0, 0, 0, 0, 0, 0, 0, 0, 0, 0⟩ : Hs)) := HR2.out.keeps hk (by omega)
      have HN3 : Hid (HW w3 w1.heap.size h) := HN2.out.keeps hk (by omega)
      clear hs hk HS2 HK2 HR2 HN2
      obtain ⟨c0, c1, c2, c3, c4, c5, c6, c7, c8, c9, c10, c11, f0, f1, f2, f3, f4, f5, f6, f7, f8, f9, f10, f11⟩ := HN3.out
      obtain ⟨d0, d1, d2, d3, d4, d5, d6, d7, d8, d9, d10, d11, e0, e1, e2, e3, e4, e5, e6, e7, e8, e9, e10, e11⟩ := HR3.out
      try dsimp only at d0 d1 d2 d3 d4 d5 d6 d7 d8 d9 d10 d11
      go_wp2_with fail
      clear c0 c1 c2 c3 c4 c5 c6 c7 c8 c9 c10 c11 f0 f1 f2 f3 f4 f5 f6 f7 f8 f9 f10 f11
      clear d0 d1 d2 d3 d4 d5 d6 d7 d8 d9 d10 d11 e0 e1 e2 e3 e4 e5 e6 e7 e8 e9 e10 e11
      change bodyPost _ _ _ _ _ (putH (w3.setCell ⟨w1.heap.size, 0, none⟩ (.int .i64 x)) w.heap.size { h with fl := x })
      obtain ⟨Wf, hWf⟩ : ∃ Wf, putH (w3.setCell ⟨w1.heap.size, 0, none⟩ (.int .i64 x)) w.heap.size { h with fl := x } = Wf := ⟨_, rfl⟩
      have HRf : HW Wf w.heap.size { h with fl := x } := hWf ▸ HW.put (HR3.out.other (by omega)) _
      have HSf : Src Wf sb B a len cap (t1 + 1 + 1) := hWf ▸ Src.put (HS3.out.other _ _ _ (by omega) (by omega)) _ _ (by omega) (by omega)
      have HKf : Keeps sb w Wf := hWf ▸ Keeps.put (HK3.out.own (by omega) _ _) (Nat.le_refl _) _
      rw [hWf]
      clear hWf
      obtain ⟨d0, d1, d2, d3, d4, d5, d6, d7, d8, d9, d10, d11, e0, e1, e2, e3, e4, e5, e6, e7, e8, e9, e10, e11⟩ := HRf
      try dsimp only at d0 d1 d2 d3 d4 d5 d6 d7 d8 d9 d10 d11
      exact bodyPost_ret (v := .agg #[.int .i64 (x), .int .i64 (h.gp), .int .i64 (h.ln), .int .i64 (h.rf), .int .i64 (h.sp), .int .i64 (h.pu), .int .i64 (h.br), .int .i64 (h.dr), .int .i64 (h.lv), .int .i64 (h.dO), .int .i64 (h.ld), .int .i64 (h.qu)]) (by simp [results, Tryz.results25, go_sem, d0, d1, d2, d3, d4, d5, d6, d7, d8, d9, d10, d11]) rfl ⟨{ h with fl := x }, _, rfl, (by omega : t1 + 1 + 1 ≤ t + 60), HSf, HKf, HLD.out, hxx⟩
    · obtain ⟨ap1, ap2⟩ := HM.out.apart_bd
      have e1 : IntKind.i64.wrap (h.apart - 1) = h.apart - 1 := IntWalk.i64_in _ (by omega)
      obtain ⟨c0, c1, c2, c3, c4, c5, c6, c7, c8, c9, c10, c11, f0, f1, f2, f3, f4, f5, f6, f7, f8, f9, f10, f11⟩ := HN2.out
      go_wp2_with fail
      have HS2 : Hid (Src w2.drew sb B a len cap (t1 + 1)) := HS2.out.below (Below.refl _ _).drew
      have HK2 : Hid (Keeps sb w w2.drew) := HK2.out.of_below (Below.refl _ _).drew
      have HR2 : Hid (HW w2.drew w.heap.size (⟨0, 0, 0, 0, 0, 0, 0, 0, 0, 0, 0, 0⟩ : Hs)) := HR2.out.drew
      have HN2 : Hid (HW w2.drew w1.heap.size h) := HN2.out.drew
      first | (go_region_with (first | (go_at_call 46; refine (specApart_wb h (by have := HM.out.sp1; omega) (by have := HM.out.sp2; omega) (by have := HM.out.pu1; have := HM.out.br1; omega) (by have := HM.out.pu2; have := HM.out.br2; omega) (by have := HM.out.ln1; omega) (by have := HM.out.ln2; omega) HM.out.lv1 (by have := HM.out.lv2; omega) _).mono ?_; rintro e w3 ⟨rfl, hb⟩; have HS2 : Hid (Src w3 sb B a len cap (t1 + 1)) := HS2.out.below hb; have HK2 : Hid (Keeps sb w w3) := HK2.out.of_below hb; have HR2 : Hid (HW w3 w.heap.size (⟨0, 0, 0, 0, 0, 0, 0, 0, 0, 0, 0, 0⟩ : Hs)) := HR2.out.below hb HR2.out.lt; have HN2 : Hid (HW w3 w1.heap.size h) := HN2.out.below hb HN2.out.lt; clear hb; obtain ⟨c0, c1, c2, c3, c4, c5, c6, c7, c8, c9, c10, c11, f0, f1, f2, f3, f4, f5, f6, f7, f8, f9, f10, f11⟩ := HN2.out) | (go_at_call 45; refine (l1Pick_at sb B 2 [0, h.apart - 1, h.apart, 20000, 20001] (fun _ => True) (fun _ _ => trivial) a len cap _ _ _ (by simp) HS2.out (by omega) (by simp) (by simp)).mono ?_; rintro e w4 ⟨x, rfl, -, hs, hk⟩; have HS4 : Hid (Src w4 sb B a len cap (t1 + 1 + 1)) := hs; have HK4 : Hid (Keeps sb w w4) := HK2.out.trans hk; have HR4 : Hid (HW w4 w.heap.size (⟨0, 0, 0, 0, 0, 0, 0, 0, 0, 0, 0, 0⟩ : Hs)) := HR2.out.keeps hk (by omega); have HN4 : Hid (HW w4 w1.heap.size h) := HN2.out.keeps hk (by omega); clear hs hk; obtain ⟨c0, c1, c2, c3, c4, c5, c6, c7, c8, c9, c10, c11, f0, f1, f2, f3, f4, f5, f6, f7, f8, f9, f10, f11⟩ := HN4.out))) | fail
      all_goals
        obtain ⟨d0, d1, d2, d3, d4, d5, d6, d7, d8, d9, d10, d11, e0, e1, e2, e3, e4, e5, e6, e7, e8, e9, e10, e11⟩ := HR4.out
        dsimp only at d0 d1 d2 d3 d4 d5 d6 d7 d8 d9 d10 d11
        go_wp2_with fail
        clear c0 c1 c2 c3 c4 c5 c6 c7 c8 c9 c10 c11 f0 f1 f2 f3 f4 f5 f6 f7 f8 f9 f10 f11
        clear d0 d1 d2 d3 d4 d5 d6 d7 d8 d9 d10 d11 e0 e1 e2 e3 e4 e5 e6 e7 e8 e9 e10 e11
        change bodyPost _ _ _ _ _ (putH (w4.setCell ⟨w1.heap.size, 1, none⟩ (.int .i64 x)) w.heap.size { h with gp := x })
        obtain ⟨Wf, hWf⟩ : ∃ Wf, putH (w4.setCell ⟨w1.heap.size, 1, none⟩ (.int .i64 x)) w.heap.size { h with gp := x } = Wf := ⟨_, rfl⟩
        have HRf : HW Wf w.heap.size { h with gp := x } := hWf ▸ HW.put (HR4.out.other (by omega)) _
        have HSf : Src Wf sb B a len cap (t1 + 1 + 1) := hWf ▸ Src.put (HS4.out.other _ _ _ (by omega) (by omega)) _ _ (by omega) (by omega)
        have HKf : Keeps sb w Wf := hWf ▸ Keeps.put (HK4.out.own (by omega) _ _) (Nat.le_refl _) _
        rw [hWf]
        clear hWf
        obtain ⟨d0, d1, d2, d3, d4, d5, d6, d7, d8, d9, d10, d11, e0, e1, e2, e3, e4, e5, e6, e7, e8, e9, e10, e11⟩ := HRf
        try dsimp only at d0 d1 d2 d3 d4 d5 d6 d7 d8 d9 d10 d11
        exact bodyPost_ret (v := .agg #[.int .i64 (h.fl), .int .i64 (x), .int .i64 (h.ln), .int .i64 (h.rf), .int .i64 (h.sp), .int .i64 (h.pu), .int .i64 (h.br), .int .i64 (h.dr), .int .i64 (h.lv), .int .i64 (h.dO), .int .i64 (h.ld), .int .i64 (h.qu)]) (by simp [results, Tryz.results25, go_sem, d0, d1, d2, d3, d4, d5, d6, d7, d8, d9, d10, d11]) rfl ⟨{ h with gp := x }, _, rfl, (by omega : t1 + 1 + 1 ≤ t + 60), HSf, HKf, HLD.out, HFL.out⟩
    · obtain ⟨c0, c1, c2, c3, c4, c5, c6, c7, c8, c9, c10, c11, f0, f1, f2, f3, f4, f5, f6, f7, f8, f9, f10, f11⟩ := HN2.out
      go_wp2_with fail
      clear c0 c1 c2 c3 c4 c5 c6 c7 c8 c9 c10 c11 f0 f1 f2 f3 f4 f5 f6 f7 f8 f9 f10 f11
      refine (l1Pick_at sb B 2 [0, 20000, 20001] (fun _ => True) (fun _ _ => trivial) a len cap _ _ _ (by simp) HS2.out (by omega) (by simp) (by simp)).mono ?_
      rintro e w3 ⟨x, rfl, -, hs, hk⟩
      have HS3 : Hid (Src w3 sb B a len cap (t1 + 1 + 1)) := hs
      have HK3 : Hid (Keeps sb w w3) := HK2.out.trans hk
      have HR3 : Hid (HW w3 w.heap.size (⟨0, 0, 0, 0, 0, 0, 0, 0, 0, 0, 0, 0⟩ : Hs)) := HR2.out.keeps hk (by omega)
      have HN3 : Hid (HW w3 w1.heap.size h) := HN2.out.keeps hk (by omega)
      clear hs hk HS2 HK2 HR2 HN2
      obtain ⟨c0, c1, c2, c3, c4, c5, c6, c7, c8, c9, c10, c11, f0, f1, f2, f3, f4, f5, f6, f7, f8, f9, f10, f11⟩ := HN3.out
      obtain ⟨d0, d1, d2, d3, d4, d5, d6, d7, d8, d9, d10, d11, e0, e1, e2, e3, e4, e5, e6, e7, e8, e9, e10, e11⟩ := HR3.out
      try dsimp only at d0 d1 d2 d3 d4 d5 d6 d7 d8 d9 d10 d11
      go_wp2_with fail
      clear c0 c1 c2 c3 c4 c5 c6 c7 c8 c9 c10 c11 f0 f1 f2 f3 f4 f5 f6 f7 f8 f9 f10 f11
      clear d0 d1 d2 d3 d4 d5 d6 d7 d8 d9 d10 d11 e0 e1 e2 e3 e4 e5 e6 e7 e8 e9 e10 e11
      change bodyPost _ _ _ _ _ (putH (w3.setCell ⟨w1.heap.size, 2, none⟩ (.int .i64 x)) w.heap.size { h with ln := x })
      obtain ⟨Wf, hWf⟩ : ∃ Wf, putH (w3.setCell ⟨w1.heap.size, 2, none⟩ (.int .i64 x)) w.heap.size { h with ln := x } = Wf := ⟨_, rfl⟩
      have HRf : HW Wf w.heap.size { h with ln := x } := hWf ▸ HW.put (HR3.out.other (by omega)) _
      have HSf : Src Wf sb B a len cap (t1 + 1 + 1) := hWf ▸ Src.put (HS3.out.other _ _ _ (by omega) (by omega)) _ _ (by omega) (by omega)
      have HKf : Keeps sb w Wf := hWf ▸ Keeps.put (HK3.out.own (by omega) _ _) (Nat.le_refl _) _
      rw [hWf]
      clear hWf
      obtain ⟨d0, d1, d2, d3, d4, d5, d6, d7, d8, d9, d10, d11, e0, e1, e2, e3, e4, e5, e6, e7, e8, e9, e10, e11⟩ := HRf
      try dsimp only at d0 d1 d2 d3 d4 d5 d6 d7 d8 d9 d10 d11
      exact bodyPost_ret (v := .agg #[.int .i64 (h.fl), .int .i64 (h.gp), .int .i64 (x), .int .i64 (h.rf), .int .i64 (h.sp), .int .i64 (h.pu), .int .i64 (h.br), .int .i64 (h.dr), .int .i64 (h.lv), .int .i64 (h.dO), .int .i64 (h.ld), .int .i64 (h.qu)]) (by simp [results, Tryz.results25, go_sem, d0, d1, d2, d3, d4, d5, d6, d7, d8, d9, d10, d11]) rfl ⟨{ h with ln := x }, _, rfl, (by omega : t1 + 1 + 1 ≤ t + 60), HSf, HKf, HLD.out, HFL.out⟩
    · obtain ⟨ap1, ap2⟩ := HM.out.apart_bd
      obtain ⟨c0, c1, c2, c3, c4, c5, c6, c7, c8, c9, c10, c11, f0, f1, f2, f3, f4, f5, f6, f7, f8, f9, f10, f11⟩ := HN2.out
      go_wp2_with fail
      clear c0 c1 c2 c3 c4 c5 c6 c7 c8 c9 c10 c11 f0 f1 f2 f3 f4 f5 f6 f7 f8 f9 f10 f11
      refine (specApart_wb h (by have := HM.out.sp1; omega) (by have := HM.out.sp2; omega) (by have := HM.out.pu1; have := HM.out.br1; omega) (by have := HM.out.pu2; have := HM.out.br2; omega) (by have := HM.out.ln1; omega) (by have := HM.out.ln2; omega) HM.out.lv1 (by have := HM.out.lv2; omega) _).mono ?_
      rintro e w3 ⟨rfl, hb⟩
      have HS3 : Hid (Src w3 sb B a len cap (t1 + 1)) := HS2.out.below hb
      have HK3 : Hid (Keeps sb w w3) := HK2.out.of_below hb
      have HR3 : Hid (HW w3 w.heap.size (⟨0, 0, 0, 0, 0, 0, 0, 0, 0, 0, 0, 0⟩ : Hs)) := HR2.out.below hb HR2.out.lt
      have HN3 : Hid (HW w3 w1.heap.size h) := HN2.out.below hb HN2.out.lt
      clear hb HS2 HK2 HR2 HN2
      obtain ⟨c0, c1, c2, c3, c4, c5, c6, c7, c8, c9, c10, c11, f0, f1, f2, f3, f4, f5, f6, f7, f8, f9, f10, f11⟩ := HN3.out
      go_wp2_with fail
      clear c0 c1 c2 c3 c4 c5 c6 c7 c8 c9 c10 c11 f0 f1 f2 f3 f4 f5 f6 f7 f8 f9 f10 f11
      refine (l1Pick_at sb B 2 [0, h.apart - 1, 20000, 20001] (fun _ => True) (fun _ _ => trivial) a len cap _ _ _ (by simp) HS3.out (by omega) (by simp) (by simp)).mono ?_
      rintro e w4 ⟨x, rfl, -, hs, hk⟩
      have HS4 : Hid (Src w4 sb B a len cap (t1 + 1 + 1)) := hs
      have HK4 : Hid (Keeps sb w w4) := HK3.out.trans hk
      have HR4 : Hid (HW w4 w.heap.size (⟨0, 0, 0, 0, 0, 0, 0, 0, 0, 0, 0, 0⟩ : Hs)) := HR3.out.keeps hk (by omega)
      have HN4 : Hid (HW w4 w1.heap.size h) := HN3.out.keeps hk (by omega)
      clear hs hk HS3 HK3 HR3 HN3
      obtain ⟨c0, c1, c2, c3, c4, c5, c6, c7, c8, c9, c10, c11, f0, f1, f2, f3, f4, f5, f6, f7, f8, f9, f10, f11⟩ := HN4.out
      obtain ⟨d0, d1, d2, d3, d4, d5, d6, d7, d8, d9, d10, d11, e0, e1, e2, e3, e4, e5, e6, e7, e8, e9, e10, e11⟩ := HR4.out
      try dsimp only at d0 d1 d2 d3 d4 d5 d6 d7 d8 d9 d10 d11
      go_wp2_with fail
      clear c0 c1 c2 c3 c4 c5 c6 c7 c8 c9 c10 c11 f0 f1 f2 f3 f4 f5 f6 f7 f8 f9 f10 f11
      clear d0 d1 d2 d3 d4 d5 d6 d7 d8 d9 d10 d11 e0 e1 e2 e3 e4 e5 e6 e7 e8 e9 e10 e11
      change bodyPost _ _ _ _ _ (putH (w4.setCell ⟨w1.heap.size, 3, none⟩ (.int .i64 x)) w.heap.size { h with rf := x })
      obtain ⟨Wf, hWf⟩ : ∃ Wf, putH (w4.setCell ⟨w1.heap.size, 3, none⟩ (.int .i64 x)) w.heap.size { h with rf := x } = Wf := ⟨_, rfl⟩
      have HRf : HW Wf w.heap.size { h with rf := x } := hWf ▸ HW.put (HR4.out.other (by omega)) _
      have HSf : Src Wf sb B a len cap (t1 + 1 + 1) := hWf ▸ Src.put (HS4.out.other _ _ _ (by omega) (by omega)) _ _ (by omega) (by omega)
      have HKf : Keeps sb w Wf := hWf ▸ Keeps.put (HK4.out.own (by omega) _ _) (Nat.le_refl _) _
      rw [hWf]
      clear hWf
      obtain ⟨d0, d1, d2, d3, d4, d5, d6, d7, d8, d9, d10, d11, e0, e1, e2, e3, e4, e5, e6, e7, e8, e9, e10, e11⟩ := HRf
      try dsimp only at d0 d1 d2 d3 d4 d5 d6 d7 d8 d9 d10 d11
      exact bodyPost_ret (v := .agg #[.int .i64 (h.fl), .int .i64 (h.gp), .int .i64 (h.ln), .int .i64 (x), .int .i64 (h.sp), .int .i64 (h.pu), .int .i64 (h.br), .int .i64 (h.dr), .int .i64 (h.lv), .int .i64 (h.dO), .int .i64 (h.ld), .int .i64 (h.qu)]) (by simp [results, Tryz.results25, go_sem, d0, d1, d2, d3, d4, d5, d6, d7, d8, d9, d10, d11]) rfl ⟨{ h with rf := x }, _, rfl, (by omega : t1 + 1 + 1 ≤ t + 60), HSf, HKf, HLD.out, HFL.out⟩
    · obtain ⟨c0, c1, c2, c3, c4, c5, c6, c7, c8, c9, c10, c11, f0, f1, f2, f3, f4, f5, f6, f7, f8, f9, f10, f11⟩ := HN2.out
      go_wp2_with fail
      clear c0 c1 c2 c3 c4 c5 c6 c7 c8 c9 c10 c11 f0 f1 f2 f3 f4 f5 f6 f7 f8 f9 f10 f11
      refine (l1Pick_at sb B 2 [0, 500, 501] (fun _ => True) (fun _ _ => trivial) a len cap _ _ _ (by simp) HS2.out (by omega) (by simp) (by simp)).mono ?_
      rintro e w3 ⟨x, rfl, -, hs, hk⟩
      have HS3 : Hid (Src w3 sb B a len cap (t1 + 1 + 1)) := hs
      have HK3 : Hid (Keeps sb w w3) := HK2.out.trans hk
      have HR3 : Hid (HW w3 w.heap.size (⟨0, 0, 0, 0, 0, 0, 0, 0, 0, 0, 0, 0⟩ : Hs)) := HR2.out.keeps hk (by omega)
      have HN3 : Hid (HW w3 w1.heap.size h) := HN2.out.keeps hk (by omega)
      clear hs hk HS2 HK2 HR2 HN2
      obtain ⟨c0, c1, c2, c3, c4, c5, c6, c7, c8, c9, c10, c11, f0, f1, f2, f3, f4, f5, f6, f7, f8, f9, f10, f11⟩ := HN3.out
      obtain ⟨d0, d1, d2, d3, d4, d5, d6, d7, d8, d9, d10, d11, e0, e1, e2, e3, e4, e5, e6, e7, e8, e9, e10, e11⟩ := HR3.out
      try dsimp only at d0 d1 d2 d3 d4 d5 d6 d7 d8 d9 d10 d11
      go_wp2_with fail
      clear c0 c1 c2 c3 c4 c5 c6 c7 c8 c9 c10 c11 f0 f1 f2 f3 f4 f5 f6 f7 f8 f9 f10 f11
      clear d0 d1 d2 d3 d4 d5 d6 d7 d8 d9 d10 d11 e0 e1 e2 e3 e4 e5 e6 e7 e8 e9 e10 e11
      change bodyPost _ _ _ _ _ (putH (w3.setCell ⟨w1.heap.size, 4, none⟩ (.int .i64 x)) w.heap.size { h with sp := x })
      obtain ⟨Wf, hWf⟩ : ∃ Wf, putH (w3.setCell ⟨w1.heap.size, 4, none⟩ (.int .i64 x)) w.heap.size { h with sp := x } = Wf := ⟨_, rfl⟩
      have HRf : HW Wf w.heap.size { h with sp := x } := hWf ▸ HW.put (HR3.out.other (by omega)) _
      have HSf : Src Wf sb B a len cap (t1 + 1 + 1) := hWf ▸ Src.put (HS3.out.other _ _ _ (by omega) (by omega)) _ _ (by omega) (by omega)
      have HKf : Keeps sb w Wf := hWf ▸ Keeps.put (HK3.out.own (by omega) _ _) (Nat.le_refl _) _
      rw [hWf]
      clear hWf
      obtain ⟨d0, d1, d2, d3, d4, d5, d6, d7, d8, d9, d10, d11, e0, e1, e2, e3, e4, e5, e6, e7, e8, e9, e10, e11⟩ := HRf
      try dsimp only at d0 d1 d2 d3 d4 d5 d6 d7 d8 d9 d10 d11
      exact bodyPost_ret (v := .agg #[.int .i64 (h.fl), .int .i64 (h.gp), .int .i64 (h.ln), .int .i64 (h.rf), .int .i64 (x), .int .i64 (h.pu), .int .i64 (h.br), .int .i64 (h.dr), .int .i64 (h.lv), .int .i64 (h.dO), .int .i64 (h.ld), .int .i64 (h.qu)]) (by simp [results, Tryz.results25, go_sem, d0, d1, d2, d3, d4, d5, d6, d7, d8, d9, d10, d11]) rfl ⟨{ h with sp := x }, _, rfl, (by omega : t1 + 1 + 1 ≤ t + 60), HSf, HKf, HLD.out, HFL.out⟩
    · obtain ⟨c0, c1, c2, c3, c4, c5, c6, c7, c8, c9, c10, c11, f0, f1, f2, f3, f4, f5, f6, f7, f8, f9, f10, f11⟩ := HN2.out
      go_wp2_with fail
      clear c0 c1 c2 c3 c4 c5 c6 c7 c8 c9 c10 c11 f0 f1 f2 f3 f4 f5 f6 f7 f8 f9 f10 f11
      refine (l1Pick_at sb B 2 [0, h.sp, h.sp + 1] (fun _ => True) (fun _ _ => trivial) a len cap _ _ _ (by simp) HS2.out (by omega) (by simp) (by simp)).mono ?_
      rintro e w3 ⟨x, rfl, -, hs, hk⟩
      have HS3 : Hid (Src w3 sb B a len cap (t1 + 1 + 1)) := hs
      have HK3 : Hid (Keeps sb w w3) := HK2.out.trans hk
      have HR3 : Hid (HW w3 w.heap.size (⟨0, 0, 0, 0, 0, 0, 0, 0, 0, 0, 0, 0⟩ : Hs)) := HR2.out.keeps hk (by omega)
      have HN3 : Hid (HW w3 w1.heap.size h) := HN2.out.keeps hk (by omega)
      clear hs hk HS2 HK2 HR2 HN2
      obtain ⟨c0, c1, c2, c3, c4, c5, c6, c7, c8, c9, c10, c11, f0, f1, f2, f3, f4, f5, f6, f7, f8, f9, f10, f11⟩ := HN3.out
      obtain ⟨d0, d1, d2, d3, d4, d5, d6, d7, d8, d9, d10, d11, e0, e1, e2, e3, e4, e5, e6, e7, e8, e9, e10, e11⟩ := HR3.out
      try dsimp only at d0 d1 d2 d3 d4 d5 d6 d7 d8 d9 d10 d11
      go_wp2_with fail
      clear c0 c1 c2 c3 c4 c5 c6 c7 c8 c9 c10 c11 f0 f1 f2 f3 f4 f5 f6 f7 f8 f9 f10 f11
      clear d0 d1 d2 d3 d4 d5 d6 d7 d8 d9 d10 d11 e0 e1 e2 e3 e4 e5 e6 e7 e8 e9 e10 e11
      change bodyPost _ _ _ _ _ (putH (w3.setCell ⟨w1.heap.size, 5, none⟩ (.int .i64 x)) w.heap.size { h with pu := x })
      obtain ⟨Wf, hWf⟩ : ∃ Wf, putH (w3.setCell ⟨w1.heap.size, 5, none⟩ (.int .i64 x)) w.heap.size { h with pu := x } = Wf := ⟨_, rfl⟩
      have HRf : HW Wf w.heap.size { h with pu := x } := hWf ▸ HW.put (HR3.out.other (by omega)) _
      have HSf : Src Wf sb B a len cap (t1 + 1 + 1) := hWf ▸ Src.put (HS3.out.other _ _ _ (by omega) (by omega)) _ _ (by omega) (by omega)
      have HKf : Keeps sb w Wf := hWf ▸ Keeps.put (HK3.out.own (by omega) _ _) (Nat.le_refl _) _
      rw [hWf]
      clear hWf
      obtain ⟨d0, d1, d2, d3, d4, d5, d6, d7, d8, d9, d10, d11, e0, e1, e2, e3, e4, e5, e6, e7, e8, e9, e10, e11⟩ := HRf
      try dsimp only at d0 d1 d2 d3 d4 d5 d6 d7 d8 d9 d10 d11
      exact bodyPost_ret (v := .agg #[.int .i64 (h.fl), .int .i64 (h.gp), .int .i64 (h.ln), .int .i64 (h.rf), .int .i64 (h.sp), .int .i64 (x), .int .i64 (h.br), .int .i64 (h.dr), .int .i64 (h.lv), .int .i64 (h.dO), .int .i64 (h.ld), .int .i64 (h.qu)]) (by simp [results, Tryz.results25, go_sem, d0, d1, d2, d3, d4, d5, d6, d7, d8, d9, d10, d11]) rfl ⟨{ h with pu := x }, _, rfl, (by omega : t1 + 1 + 1 ≤ t + 60), HSf, HKf, HLD.out, HFL.out⟩
    · obtain ⟨c0, c1, c2, c3, c4, c5, c6, c7, c8, c9, c10, c11, f0, f1, f2, f3, f4, f5, f6, f7, f8, f9, f10, f11⟩ := HN2.out
      go_wp2_with fail
      clear c0 c1 c2 c3 c4 c5 c6 c7 c8 c9 c10 c11 f0 f1 f2 f3 f4 f5 f6 f7 f8 f9 f10 f11
      refine (l1Pick_at sb B 2 [h.pu - 1, 500, 501] (fun _ => True) (fun _ _ => trivial) a len cap _ _ _ (by simp) HS2.out (by omega) (by simp) (by simp)).mono ?_
      rintro e w3 ⟨x, rfl, -, hs, hk⟩
      have HS3 : Hid (Src w3 sb B a len cap (t1 + 1 + 1)) := hs
      have HK3 : Hid (Keeps sb w w3) := HK2.out.trans hk
      have HR3 : Hid (HW w3 w.heap.size (⟨0, 0, 0, 0, 0, 0, 0, 0, 0, 0, 0, 0⟩ : Hs)) := HR2.out.keeps hk (by omega)
      have HN3 : Hid (HW w3 w1.heap.size h) := HN2.out.keeps hk (by omega)
      clear hs hk HS2 HK2 HR2 HN2
      obtain ⟨c0, c1, c2, c3, c4, c5, c6, c7, c8, c9, c10, c11, f0, f1, f2, f3, f4, f5, f6, f7, f8, f9, f10, f11⟩ := HN3.out
      obtain ⟨d0, d1, d2, d3, d4, d5, d6, d7, d8, d9, d10, d11, e0, e1, e2, e3, e4, e5, e6, e7, e8, e9, e10, e11⟩ := HR3.out
      try dsimp only at d0 d1 d2 d3 d4 d5 d6 d7 d8 d9 d10 d11
      go_wp2_with fail
      clear c0 c1 c2 c3 c4 c5 c6 c7 c8 c9 c10 c11 f0 f1 f2 f3 f4 f5 f6 f7 f8 f9 f10 f11
      clear d0 d1 d2 d3 d4 d5 d6 d7 d8 d9 d10 d11 e0 e1 e2 e3 e4 e5 e6 e7 e8 e9 e10 e11
      change bodyPost _ _ _ _ _ (putH (w3.setCell ⟨w1.heap.size, 6, none⟩ (.int .i64 x)) w.heap.size { h with br := x })
      obtain ⟨Wf, hWf⟩ : ∃ Wf, putH (w3.setCell ⟨w1.heap.size, 6, none⟩ (.int .i64 x)) w.heap.size { h with br := x } = Wf := ⟨_, rfl⟩
      have HRf : HW Wf w.heap.size { h with br := x } := hWf ▸ HW.put (HR3.out.other (by omega)) _
      have HSf : Src Wf sb B a len cap (t1 + 1 + 1) := hWf ▸ Src.put (HS3.out.other _ _ _ (by omega) (by omega)) _ _ (by omega) (by omega)
      have HKf : Keeps sb w Wf := hWf ▸ Keeps.put (HK3.out.own (by omega) _ _) (Nat.le_refl _) _
      rw [hWf]
      clear hWf
      obtain ⟨d0, d1, d2, d3, d4, d5, d6, d7, d8, d9, d10, d11, e0, e1, e2, e3, e4, e5, e6, e7, e8, e9, e10, e11⟩ := HRf
      try dsimp only at d0 d1 d2 d3 d4 d5 d6 d7 d8 d9 d10 d11
      exact bodyPost_ret (v := .agg #[.int .i64 (h.fl), .int .i64 (h.gp), .int .i64 (h.ln), .int .i64 (h.rf), .int .i64 (h.sp), .int .i64 (h.pu), .int .i64 (x), .int .i64 (h.dr), .int .i64 (h.lv), .int .i64 (h.dO), .int .i64 (h.ld), .int .i64 (h.qu)]) (by simp [results, Tryz.results25, go_sem, d0, d1, d2, d3, d4, d5, d6, d7, d8, d9, d10, d11]) rfl ⟨{ h with br := x }, _, rfl, (by omega : t1 + 1 + 1 ≤ t + 60), HSf, HKf, HLD.out, HFL.out⟩
    · obtain ⟨c0, c1, c2, c3, c4, c5, c6, c7, c8, c9, c10, c11, f0, f1, f2, f3, f4, f5, f6, f7, f8, f9, f10, f11⟩ := HN2.out
      go_wp2_with fail
      clear c0 c1 c2 c3 c4 c5 c6 c7 c8 c9 c10 c11 f0 f1 f2 f3 f4 f5 f6 f7 f8 f9 f10 f11
      refine (l1Pick_at sb B 2 [-1, h.pu - 1, h.pu] (fun _ => True) (fun _ _ => trivial) a len cap _ _ _ (by simp) HS2.out (by omega) (by simp) (by simp)).mono ?_
      rintro e w3 ⟨x, rfl, -, hs, hk⟩
      have HS3 : Hid (Src w3 sb B a len cap (t1 + 1 + 1)) := hs
      have HK3 : Hid (Keeps sb w w3) := HK2.out.trans hk
      have HR3 : Hid (HW w3 w.heap.size (⟨0, 0, 0, 0, 0, 0, 0, 0, 0, 0, 0, 0⟩ : Hs)) := HR2.out.keeps hk (by omega)
      have HN3 : Hid (HW w3 w1.heap.size h) := HN2.out.keeps hk (by omega)
      clear hs hk HS2 HK2 HR2 HN2
      obtain ⟨c0, c1, c2, c3, c4, c5, c6, c7, c8, c9, c10, c11, f0, f1, f2, f3, f4, f5, f6, f7, f8, f9, f10, f11⟩ := HN3.out
      obtain ⟨d0, d1, d2, d3, d4, d5, d6, d7, d8, d9, d10, d11, e0, e1, e2, e3, e4, e5, e6, e7, e8, e9, e10, e11⟩ := HR3.out
      try dsimp only at d0 d1 d2 d3 d4 d5 d6 d7 d8 d9 d10 d11
      go_wp2_with fail
      clear c0 c1 c2 c3 c4 c5 c6 c7 c8 c9 c10 c11 f0 f1 f2 f3 f4 f5 f6 f7 f8 f9 f10 f11
      clear d0 d1 d2 d3 d4 d5 d6 d7 d8 d9 d10 d11 e0 e1 e2 e3 e4 e5 e6 e7 e8 e9 e10 e11
      change bodyPost _ _ _ _ _ (putH (w3.setCell ⟨w1.heap.size, 7, none⟩ (.int .i64 x)) w.heap.size { h with dr := x })
      obtain ⟨Wf, hWf⟩ : ∃ Wf, putH (w3.setCell ⟨w1.heap.size, 7, none⟩ (.int .i64 x)) w.heap.size { h with dr := x } = Wf := ⟨_, rfl⟩
      have HRf : HW Wf w.heap.size { h with dr := x } := hWf ▸ HW.put (HR3.out.other (by omega)) _
      have HSf : Src Wf sb B a len cap (t1 + 1 + 1) := hWf ▸ Src.put (HS3.out.other _ _ _ (by omega) (by omega)) _ _ (by omega) (by omega)
      have HKf : Keeps sb w Wf := hWf ▸ Keeps.put (HK3.out.own (by omega) _ _) (Nat.le_refl _) _
      rw [hWf]
      clear hWf
      obtain ⟨d0, d1, d2, d3, d4, d5, d6, d7, d8, d9, d10, d11, e0, e1, e2, e3, e4, e5, e6, e7, e8, e9, e10, e11⟩ := HRf
      try dsimp only at d0 d1 d2 d3 d4 d5 d6 d7 d8 d9 d10 d11
      exact bodyPost_ret (v := .agg #[.int .i64 (h.fl), .int .i64 (h.gp), .int .i64 (h.ln), .int .i64 (h.rf), .int .i64 (h.sp), .int .i64 (h.pu), .int .i64 (h.br), .int .i64 (x), .int .i64 (h.lv), .int .i64 (h.dO), .int .i64 (h.ld), .int .i64 (h.qu)]) (by simp [results, Tryz.results25, go_sem, d0, d1, d2, d3, d4, d5, d6, d7, d8, d9, d10, d11]) rfl ⟨{ h with dr := x }, _, rfl, (by omega : t1 + 1 + 1 ≤ t + 60), HSf, HKf, HLD.out, HFL.out⟩
    · obtain ⟨c0, c1, c2, c3, c4, c5, c6, c7, c8, c9, c10, c11, f0, f1, f2, f3, f4, f5, f6, f7, f8, f9, f10, f11⟩ := HN2.out
      go_wp2_with fail
      clear c0 c1 c2 c3 c4 c5 c6 c7 c8 c9 c10 c11 f0 f1 f2 f3 f4 f5 f6 f7 f8 f9 f10 f11
      refine (l1Pick_at sb B 2 [-1, 50, 51] (fun _ => True) (fun _ _ => trivial) a len cap _ _ _ (by simp) HS2.out (by omega) (by simp) (by simp)).mono ?_
      rintro e w3 ⟨x, rfl, -, hs, hk⟩
      have HS3 : Hid (Src w3 sb B a len cap (t1 + 1 + 1)) := hs
      have HK3 : Hid (Keeps sb w w3) := HK2.out.trans hk
      have HR3 : Hid (HW w3 w.heap.size (⟨0, 0, 0, 0, 0, 0, 0, 0, 0, 0, 0, 0⟩ : Hs)) := HR2.out.keeps hk (by omega)
      have HN3 : Hid (HW w3 w1.heap.size h) := HN2.out.keeps hk (by omega)
      clear hs hk HS2 HK2 HR2 HN2
      obtain ⟨c0, c1, c2, c3, c4, c5, c6, c7, c8, c9, c10, c11, f0, f1, f2, f3, f4, f5, f6, f7, f8, f9, f10, f11⟩ := HN3.out
      obtain ⟨d0, d1, d2, d3, d4, d5, d6, d7, d8, d9, d10, d11, e0, e1, e2, e3, e4, e5, e6, e7, e8, e9, e10, e11⟩ := HR3.out
      try dsimp only at d0 d1 d2 d3 d4 d5 d6 d7 d8 d9 d10 d11
      go_wp2_with fail
      clear c0 c1 c2 c3 c4 c5 c6 c7 c8 c9 c10 c11 f0 f1 f2 f3 f4 f5 f6 f7 f8 f9 f10 f11
      clear d0 d1 d2 d3 d4 d5 d6 d7 d8 d9 d10 d11 e0 e1 e2 e3 e4 e5 e6 e7 e8 e9 e10 e11
      change bodyPost _ _ _ _ _ (putH (w3.setCell ⟨w1.heap.size, 8, none⟩ (.int .i64 x)) w.heap.size { h with lv := x })
      obtain ⟨Wf, hWf⟩ : ∃ Wf, putH (w3.setCell ⟨w1.heap.size, 8, none⟩ (.int .i64 x)) w.heap.size { h with lv := x } = Wf := ⟨_, rfl⟩
      have HRf : HW Wf w.heap.size { h with lv := x } := hWf ▸ HW.put (HR3.out.other (by omega)) _
      have HSf : Src Wf sb B a len cap (t1 + 1 + 1) := hWf ▸ Src.put (HS3.out.other _ _ _ (by omega) (by omega)) _ _ (by omega) (by omega)
      have HKf : Keeps sb w Wf := hWf ▸ Keeps.put (HK3.out.own (by omega) _ _) (Nat.le_refl _) _
      rw [hWf]
      clear hWf
      obtain ⟨d0, d1, d2, d3, d4, d5, d6, d7, d8, d9, d10, d11, e0, e1, e2, e3, e4, e5, e6, e7, e8, e9, e10, e11⟩ := HRf
      try dsimp only at d0 d1 d2 d3 d4 d5 d6 d7 d8 d9 d10 d11
      exact bodyPost_ret (v := .agg #[.int .i64 (h.fl), .int .i64 (h.gp), .int .i64 (h.ln), .int .i64 (h.rf), .int .i64 (h.sp), .int .i64 (h.pu), .int .i64 (h.br), .int .i64 (h.dr), .int .i64 (x), .int .i64 (h.dO), .int .i64 (h.ld), .int .i64 (h.qu)]) (by simp [results, Tryz.results25, go_sem, d0, d1, d2, d3, d4, d5, d6, d7, d8, d9, d10, d11]) rfl ⟨{ h with lv := x }, _, rfl, (by omega : t1 + 1 + 1 ≤ t + 60), HSf, HKf, HLD.out, HFL.out⟩
    · obtain ⟨c0, c1, c2, c3, c4, c5, c6, c7, c8, c9, c10, c11, f0, f1, f2, f3, f4, f5, f6, f7, f8, f9, f10, f11⟩ := HN2.out
      go_wp2_with fail
      clear c0 c1 c2 c3 c4 c5 c6 c7 c8 c9 c10 c11 f0 f1 f2 f3 f4 f5 f6 f7 f8 f9 f10 f11
      refine (l1Pick_at sb B 2 [0, 20, 21] (fun _ => True) (fun _ _ => trivial) a len cap _ _ _ (by simp) HS2.out (by omega) (by simp) (by simp)).mono ?_
      rintro e w3 ⟨x, rfl, -, hs, hk⟩
      have HS3 : Hid (Src w3 sb B a len cap (t1 + 1 + 1)) := hs
      have HK3 : Hid (Keeps sb w w3) := HK2.out.trans hk
      have HR3 : Hid (HW w3 w.heap.size (⟨0, 0, 0, 0, 0, 0, 0, 0, 0, 0, 0, 0⟩ : Hs)) := HR2.out.keeps hk (by omega)
      have HN3 : Hid (HW w3 w1.heap.size h) := HN2.out.keeps hk (by omega)
      clear hs hk HS2 HK2 HR2 HN2
      obtain ⟨c0, c1, c2, c3, c4, c5, c6, c7, c8, c9, c10, c11, f0, f1, f2, f3, f4, f5, f6, f7, f8, f9, f10, f11⟩ := HN3.out
      obtain ⟨d0, d1, d2, d3, d4, d5, d6, d7, d8, d9, d10, d11, e0, e1, e2, e3, e4, e5, e6, e7, e8, e9, e10, e11⟩ := HR3.out
      try dsimp only at d0 d1 d2 d3 d4 d5 d6 d7 d8 d9 d10 d11
      go_wp2_with fail
      clear c0 c1 c2 c3 c4 c5 c6 c7 c8 c9 c10 c11 f0 f1 f2 f3 f4 f5 f6 f7 f8 f9 f10 f11
      clear d0 d1 d2 d3 d4 d5 d6 d7 d8 d9 d10 d11 e0 e1 e2 e3 e4 e5 e6 e7 e8 e9 e10 e11
      change bodyPost _ _ _ _ _ (putH (w3.setCell ⟨w1.heap.size, 9, none⟩ (.int .i64 x)) w.heap.size { h with dO := x })
      obtain ⟨Wf, hWf⟩ : ∃ Wf, putH (w3.setCell ⟨w1.heap.size, 9, none⟩ (.int .i64 x)) w.heap.size { h with dO := x } = Wf := ⟨_, rfl⟩
      have HRf : HW Wf w.heap.size { h with dO := x } := hWf ▸ HW.put (HR3.out.other (by omega)) _
      have HSf : Src Wf sb B a len cap (t1 + 1 + 1) := hWf ▸ Src.put (HS3.out.other _ _ _ (by omega) (by omega)) _ _ (by omega) (by omega)
      have HKf : Keeps sb w Wf := hWf ▸ Keeps.put (HK3.out.own (by omega) _ _) (Nat.le_refl _) _
      rw [hWf]
      clear hWf
      obtain ⟨d0, d1, d2, d3, d4, d5, d6, d7, d8, d9, d10, d11, e0, e1, e2, e3, e4, e5, e6, e7, e8, e9, e10, e11⟩ := HRf
      try dsimp only at d0 d1 d2 d3 d4 d5 d6 d7 d8 d9 d10 d11
      exact bodyPost_ret (v := .agg #[.int .i64 (h.fl), .int .i64 (h.gp), .int .i64 (h.ln), .int .i64 (h.rf), .int .i64 (h.sp), .int .i64 (h.pu), .int .i64 (h.br), .int .i64 (h.dr), .int .i64 (h.lv), .int .i64 (x), .int .i64 (h.ld), .int .i64 (h.qu)]) (by simp [results, Tryz.results25, go_sem, d0, d1, d2, d3, d4, d5, d6, d7, d8, d9, d10, d11]) rfl ⟨{ h with dO := x }, _, rfl, (by omega : t1 + 1 + 1 ≤ t + 60), HSf, HKf, HLD.out, HFL.out⟩
    · obtain ⟨c0, c1, c2, c3, c4, c5, c6, c7, c8, c9, c10, c11, f0, f1, f2, f3, f4, f5, f6, f7, f8, f9, f10, f11⟩ := HN2.out
      go_wp2_with fail
      clear c0 c1 c2 c3 c4 c5 c6 c7 c8 c9 c10 c11 f0 f1 f2 f3 f4 f5 f6 f7 f8 f9 f10 f11
      refine (l1Pick_at sb B 2 [0, 20, 21] (fun y => 0 ≤ y ∧ y ≤ 21) (by intro y hy; simp at hy; omega) a len cap _ _ _ (by simp) HS2.out (by omega) (by simp) (by simp)).mono ?_
      rintro e w3 ⟨x, rfl, hxx, hs, hk⟩
      have HS3 : Hid (Src w3 sb B a len cap (t1 + 1 + 1)) := hs
      have HK3 : Hid (Keeps sb w w3) := HK2.out.trans hk
      have HR3 : Hid (HW w3 w.heap.size (⟨0, 0, 0, 0, 0, 0, 0, 0, 0, 0, 0, 0⟩ : Hs)) := HR2.out.keeps hk (by omega)
      have HN3 : Hid (HW w3 w1.heap.size h) := HN2.out.keeps hk (by omega)
      clear hs hk HS2 HK2 HR2 HN2
      obtain ⟨c0, c1, c2, c3, c4, c5, c6, c7, c8, c9, c10, c11, f0, f1, f2, f3, f4, f5, f6, f7, f8, f9, f10, f11⟩ := HN3.out
      obtain ⟨d0, d1, d2, d3, d4, d5, d6, d7, d8, d9, d10, d11, e0, e1, e2, e3, e4, e5, e6, e7, e8, e9, e10, e11⟩ := HR3.out
      try dsimp only at d0 d1 d2 d3 d4 d5 d6 d7 d8 d9 d10 d11
      go_wp2_with fail
      clear c0 c1 c2 c3 c4 c5 c6 c7 c8 c9 c10 c11 f0 f1 f2 f3 f4 f5 f6 f7 f8 f9 f10 f11
      clear d0 d1 d2 d3 d4 d5 d6 d7 d8 d9 d10 d11 e0 e1 e2 e3 e4 e5 e6 e7 e8 e9 e10 e11
      change bodyPost _ _ _ _ _ (putH (w3.setCell ⟨w1.heap.size, 10, none⟩ (.int .i64 x)) w.heap.size { h with ld := x })
      obtain ⟨Wf, hWf⟩ : ∃ Wf, putH (w3.setCell ⟨w1.heap.size, 10, none⟩ (.int .i64 x)) w.heap.size { h with ld := x } = Wf := ⟨_, rfl⟩
      have HRf : HW Wf w.heap.size { h with ld := x } := hWf ▸ HW.put (HR3.out.other (by omega)) _
      have HSf : Src Wf sb B a len cap (t1 + 1 + 1) := hWf ▸ Src.put (HS3.out.other _ _ _ (by omega) (by omega)) _ _ (by omega) (by omega)
      have HKf : Keeps sb w Wf := hWf ▸ Keeps.put (HK3.out.own (by omega) _ _) (Nat.le_refl _) _
      rw [hWf]
      clear hWf
      obtain ⟨d0, d1, d2, d3, d4, d5, d6, d7, d8, d9, d10, d11, e0, e1, e2, e3, e4, e5, e6, e7, e8, e9, e10, e11⟩ := HRf
      try dsimp only at d0 d1 d2 d3 d4 d5 d6 d7 d8 d9 d10 d11
      exact bodyPost_ret (v := .agg #[.int .i64 (h.fl), .int .i64 (h.gp), .int .i64 (h.ln), .int .i64 (h.rf), .int .i64 (h.sp), .int .i64 (h.pu), .int .i64 (h.br), .int .i64 (h.dr), .int .i64 (h.lv), .int .i64 (h.dO), .int .i64 (x), .int .i64 (h.qu)]) (by simp [results, Tryz.results25, go_sem, d0, d1, d2, d3, d4, d5, d6, d7, d8, d9, d10, d11]) rfl ⟨{ h with ld := x }, _, rfl, (by omega : t1 + 1 + 1 ≤ t + 60), HSf, HKf, hxx, HFL.out⟩
    · obtain ⟨c0, c1, c2, c3, c4, c5, c6, c7, c8, c9, c10, c11, f0, f1, f2, f3, f4, f5, f6, f7, f8, f9, f10, f11⟩ := HN2.out
      go_wp2_with fail
      clear c0 c1 c2 c3 c4 c5 c6 c7 c8 c9 c10 c11 f0 f1 f2 f3 f4 f5 f6 f7 f8 f9 f10 f11
      refine (l1Pick_at sb B 2 [0, 40, 41] (fun _ => True) (fun _ _ => trivial) a len cap _ _ _ (by simp) HS2.out (by omega) (by simp) (by simp)).mono ?_
      rintro e w3 ⟨x, rfl, -, hs, hk⟩
      have HS3 : Hid (Src w3 sb B a len cap (t1 + 1 + 1)) := hs
      have HK3 : Hid (Keeps sb w w3) := HK2.out.trans hk
      have HR3 : Hid (HW w3 w.heap.size (⟨0, 0, 0, 0, 0, 0, 0, 0, 0, 0, 0, 0⟩ : Hs)) := HR2.out.keeps hk (by omega)
      have HN3 : Hid (HW w3 w1.heap.size h) := HN2.out.keeps hk (by omega)
      clear hs hk HS2 HK2 HR2 HN2
      obtain ⟨c0, c1, c2, c3, c4, c5, c6, c7, c8, c9, c10, c11, f0, f1, f2, f3, f4, f5, f6, f7, f8, f9, f10, f11⟩ := HN3.out
      obtain ⟨d0, d1, d2, d3, d4, d5, d6, d7, d8, d9, d10, d11, e0, e1, e2, e3, e4, e5, e6, e7, e8, e9, e10, e11⟩ := HR3.out
      try dsimp only at d0 d1 d2 d3 d4 d5 d6 d7 d8 d9 d10 d11
      go_wp2_with fail
      clear c0 c1 c2 c3 c4 c5 c6 c7 c8 c9 c10 c11 f0 f1 f2 f3 f4 f5 f6 f7 f8 f9 f10 f11
      clear d0 d1 d2 d3 d4 d5 d6 d7 d8 d9 d10 d11 e0 e1 e2 e3 e4 e5 e6 e7 e8 e9 e10 e11
      change bodyPost _ _ _ _ _ (putH (w3.setCell ⟨w1.heap.size, 11, none⟩ (.int .i64 x)) w.heap.size { h with qu := x })
      obtain ⟨Wf, hWf⟩ : ∃ Wf, putH (w3.setCell ⟨w1.heap.size, 11, none⟩ (.int .i64 x)) w.heap.size { h with qu := x } = Wf := ⟨_, rfl⟩
      have HRf : HW Wf w.heap.size { h with qu := x } := hWf ▸ HW.put (HR3.out.other (by omega)) _
      have HSf : Src Wf sb B a len cap (t1 + 1 + 1) := hWf ▸ Src.put (HS3.out.other _ _ _ (by omega) (by omega)) _ _ (by omega) (by omega)
      have HKf : Keeps sb w Wf := hWf ▸ Keeps.put (HK3.out.own (by omega) _ _) (Nat.le_refl _) _
      rw [hWf]
      clear hWf
      obtain ⟨d0, d1, d2, d3, d4, d5, d6, d7, d8, d9, d10, d11, e0, e1, e2, e3, e4, e5, e6, e7, e8, e9, e10, e11⟩ := HRf
      try dsimp only at d0 d1 d2 d3 d4 d5 d6 d7 d8 d9 d10 d11
      exact bodyPost_ret (v := .agg #[.int .i64 (h.fl), .int .i64 (h.gp), .int .i64 (h.ln), .int .i64 (h.rf), .int .i64 (h.sp), .int .i64 (h.pu), .int .i64 (h.br), .int .i64 (h.dr), .int .i64 (h.lv), .int .i64 (h.dO), .int .i64 (h.ld), .int .i64 (x)]) (by simp [results, Tryz.results25, go_sem, d0, d1, d2, d3, d4, d5, d6, d7, d8, d9, d10, d11]) rfl ⟨{ h with qu := x }, _, rfl, (by omega : t1 + 1 + 1 ≤ t + 60), HSf, HKf, HLD.out, HFL.out⟩
theorem l2Bent_src (sb B : Nat) (a : Option Addr) (len cap t : Nat) (w : World) (h : Src w sb B a len cap t) (ht : t ≤ 800000) :
    Calls Tryz.prog 25 #[.pointer (some ⟨sb, 0, none⟩)] w fun e w' => ∃ h : Hs, ∃ t', e = .returned (.agg #[.int .i64 h.fl, .int .i64 h.gp, .int .i64 h.ln, .int .i64 h.rf, .int .i64 h.sp, .int .i64 h.pu, .int .i64 h.br, .int .i64 h.dr, .int .i64 h.lv, .int .i64 h.dO, .int .i64 h.ld, .int .i64 h.qu]) ∧ t' ≤ t + 60 ∧ Src w' sb B a len cap t' ∧ Keeps sb w w' :=
  (l2BentB_src sb B a len cap t w h ht).mono fun _ _ ⟨h, t', q1, q2, q3, q4, _⟩ => ⟨h, t', q1, q2, q3, q4⟩
end Go.Proofs.YtoacnglcneliiaaGreatDoor
