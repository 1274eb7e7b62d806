/-
  Zones that are split (the model).
-/
import Derived.Test.YtnpnlckdggakmaaZonS
import Derived.Test.YtnpnlckdggakmaaZonA
import Derived.Test.YtnpnlckdggakmaaFnd
import Derived.Test.YtnpnlckdggakmaaZonI
namespace Go.Proofs.Ytnpnlckdggakmaa
open Go.RowKit Pl
set_option linter.unusedSimpArgs false
set_option linter.unusedVariables false

theorem zone_nums (n q k : Nat) (n2 : 2 ≤ n) (n12 : n ≤ 12) (q1 : 1 ≤ q) (q2 : q ≤ 11) (k6 : k ≤ 6) (kI qI : Int) (hkI : kI = (k : Int)) (hqI : qI = (q : Int)) :
    ∃ (z cn : Nat) (k1 zI lI tI hI : Int), wrap64 (kI + 1) = k1 ∧ wrap64 (kI * qI) = zI ∧ wrap64 (1 + zI) = lI ∧ wrap64 (k1 * qI) = tI ∧ wrap64 (1 + tI) = hI ∧ lI = ((1 + z : Nat) : Int) ∧ hI = ((1 + z + q : Nat) : Int) ∧ k1 = ((k + 1 : Nat) : Int) ∧ zoneM n q k = (if 1 + z < n then spanM (1 + z) cn else 1 ||| 2 ^ (n - 1)) ∧ (1 + z < n → cn ≤ n - (1 + z) ∧ 1 ≤ cn) ∧ (¬ 1 + z < n → cn = 0) ∧ cn ≤ q ∧ (cn = q ∨ n ≤ 1 + z + cn) := by
  subst hkI hqI
  have lz : k * q ≤ 6 * 11 := Nat.mul_le_mul k6 q2
  have hzI : (k : Int) * (q : Int) = ((k * q : Nat) : Int) := (Int.natCast_mul k q).symm
  have hzJ : ((k : Int) + 1) * (q : Int) = ((k * q : Nat) : Int) + (q : Int) := by rw [Int.add_mul, Int.one_mul, hzI]
  unfold zoneM cntM
  generalize k * q = z at *
  have z66 : z ≤ 66 := lz
  refine ⟨z, min q (n - (1 + z)), (k : Int) + 1, (z : Int), 1 + (z : Int), (z : Int) + (q : Int), 1 + ((z : Int) + (q : Int)), ?_, ?_, ?_, ?_, ?_, ?_⟩
  · clear hzI hzJ; exact wrap_small (by omega) (by omega)
  · rw [hzI]; clear hzI hzJ; exact wrap_small (by omega) (by omega)
  · clear hzI hzJ; exact wrap_small (by omega) (by omega)
  · rw [hzJ]; clear hzI hzJ; exact wrap_small (by omega) (by omega)
  · clear hzI hzJ; exact wrap_small (by omega) (by omega)
  clear hzI hzJ lz
  exact ⟨by omega, by omega, by omega, rfl, by omega, by omega, by omega, by omega⟩
set_option maxRecDepth 20000 in
set_option maxHeartbeats 16000000 in
theorem specSplit_any (h : Hs) (cc : Int) (w : World) :
    Calls Try.prog 11 #[.agg #[.int .i64 h.fl, .int .i64 h.gp, .int .i64 h.ln, .int .i64 h.rf, .int .i64 h.sp, .int .i64 h.pu, .int .i64 h.br, .int .i64 h.dr, .int .i64 h.lv, .int .i64 h.dO, .int .i64 h.ld, .int .i64 h.qu], .int .i64 cc] w fun e w' => (∃ v, e = .returned (.agg #[.int .i64 (h.spK cc), v]) ∧ OwI w' w.heap.size v (h.spL cc)) ∧ Below w.heap.size w w' := by
  obtain ⟨K, hK⟩ : ∃ K, h.spK cc = K := ⟨_, rfl⟩
  obtain ⟨V, hV⟩ : ∃ V, h.spL cc = V := ⟨_, rfl⟩
  rw [hK, hV]
  have HK0 : Hid (h.spK cc = K) := hK
  have HV0 : Hid (h.spL cc = V) := hV
  clear hK hV
  obtain ⟨b0, hb0⟩ : ∃ b0, b0 = w.heap.size := ⟨_, rfl⟩
  obtain ⟨b1, hb1⟩ : ∃ b1, b1 = b0 + 1 := ⟨_, rfl⟩
  obtain ⟨W0, hW0⟩ : ∃ W0, W0 = (w.alloc (.cells #[.int .i64 h.fl, .int .i64 h.gp, .int .i64 h.ln, .int .i64 h.rf, .int .i64 h.sp, .int .i64 h.pu, .int .i64 h.br, .int .i64 h.dr, .int .i64 h.lv, .int .i64 h.dO, .int .i64 h.ld, .int .i64 h.qu] 25)).alloc (.cells #[.int .i64 0, .slice none 0 0] 30) := ⟨_, rfl⟩
  have F0 : Hid (Blk W0 b0 [.int .i64 h.fl, .int .i64 h.gp, .int .i64 h.ln, .int .i64 h.rf, .int .i64 h.sp, .int .i64 h.pu, .int .i64 h.br, .int .i64 h.dr, .int .i64 h.lv, .int .i64 h.dO, .int .i64 h.ld, .int .i64 h.qu]) := by rw [hW0]; exact (Blk.at_ w #[.int .i64 h.fl, .int .i64 h.gp, .int .i64 h.ln, .int .i64 h.rf, .int .i64 h.sp, .int .i64 h.pu, .int .i64 h.br, .int .i64 h.dr, .int .i64 h.lv, .int .i64 h.dO, .int .i64 h.ld, .int .i64 h.qu] _ _ hb0).alloc _
  have F1 : Hid (Blk W0 b1 [.int .i64 0, .slice none 0 0]) := by rw [hW0]; exact Blk.at_ _ #[.int .i64 0, .slice none 0 0] _ _ (by simp; omega)
  have FB : Hid (Below w.heap.size w W0) := by rw [hW0]; exact ((Below.refl _ _).alloc (Nat.le_refl _) _).alloc (by simp) _
  have leb0 : w.heap.size ≤ b0 := by omega
  have leb1 : w.heap.size ≤ b1 := by omega
  have l01 : b0 < b1 := by omega
  obtain ⟨kf, hkf⟩ : ∃ kf, h.fault = kf := ⟨_, rfl⟩
  have HF : Hid (h.fault = kf) := hkf
  clear hkf
  go_enter Try.func11, Try.ntmps11
  go_upto_region 1 with fail
  rw [← hb0, ← hb1, ← hW0]
  clear hb0 hb1 hW0
  go_upto_region 2 with (first | (refine load_blk 25 _ Try.underlying25 (by kernel_rfl) F0.out rfl rfl rfl ?_) | (go_at_call 40; refine (specFault_any h _).mono ?_; rw [HF.out]; rintro e w1 ⟨rfl, hb⟩; have F0 : Hid (Blk w1 b0 [.int .i64 h.fl, .int .i64 h.gp, .int .i64 h.ln, .int .i64 h.rf, .int .i64 h.sp, .int .i64 h.pu, .int .i64 h.br, .int .i64 h.dr, .int .i64 h.lv, .int .i64 h.dO, .int .i64 h.ld, .int .i64 h.qu]) := F0.out.below hb F0.out.lt; have F1 : Hid (Blk w1 b1 [.int .i64 0, .slice none 0 0]) := F1.out.below hb F1.out.lt; have FB : Hid (Below w.heap.size w w1) := FB.out.trans (hb.mono FB.out.size); clear hb))
  by_cases hz : kf = 0
  case neg =>
    have hn : (kf != 0) = true := by simpa using hz
    have HK : Hid ((kf : Int) = K) := by show _ = K; rw [← HK0.out]; unfold Hs.spK; rw [HF.out, if_neg hz]
    have HV : Hid ([] = V) := by show _ = V; rw [← HV0.out]; unfold Hs.spL; rw [HK0.out, ← HK.out, if_neg (by first | assumption | decide)]
    go_wp2_with (first | (refine store_blk [.int .i64 (kf), .slice none 0 0] 30 _ _ (by kernel_rfl) (by kernel_rfl) (by kernel_rfl) F1.out rfl rfl rfl rfl ?_))
    exact bodyPost_ret (v := .agg #[.int .i64 (kf), .slice none 0 0]) ((F1.out.row [.int .i64 (kf), .slice none 0 0]).res _ Try.results11 Try.underlying30 (by kernel_rfl) rfl) rfl ⟨⟨_, by rw [HK.out], by rw [← HV.out]; exact owi_nil _ _⟩, below_row FB.out leb1 _⟩
  case pos =>
  subst hz
  obtain ⟨f1, f2⟩ := fl_of HF.out
  cases hR : inB cc 1 6
  · skip
    have HK : Hid ((3 : Int) = K) := by show _ = K; rw [← HK0.out]; unfold Hs.spK; rw [HF.out, if_pos rfl, hR]; rfl
    have HV : Hid ([] = V) := by show _ = V; rw [← HV0.out]; unfold Hs.spL; rw [HK0.out, ← HK.out, if_neg (by first | assumption | decide)]
    go_wp2_with (first | (go_at_call 41; refine (l1In_any _ _ _ _).mono ?_; rw [hR]; rintro e w' ⟨rfl, hw⟩; obtain rfl := hw.symm; clear hw) | (refine store_blk [.int .i64 (3), .slice none 0 0] 30 _ _ (by kernel_rfl) (by kernel_rfl) (by kernel_rfl) F1.out rfl rfl rfl rfl ?_))
    exact bodyPost_ret (v := .agg #[.int .i64 (3), .slice none 0 0]) ((F1.out.row [.int .i64 (3), .slice none 0 0]).res _ Try.results11 Try.underlying30 (by kernel_rfl) rfl) rfl ⟨⟨_, by rw [HK.out], by rw [← HV.out]; exact owi_nil _ _⟩, below_row FB.out leb1 _⟩
  obtain ⟨g1, g2⟩ := inB_iff.1 hR
  obtain ⟨c, rfl⟩ : ∃ c : Nat, cc = (c : Int) := ⟨cc.toNat, by omega⟩
  obtain ⟨n, hn⟩ : ∃ n : Nat, h.fl = (n : Int) := ⟨h.fl.toNat, by omega⟩
  obtain ⟨q, hq⟩ : ∃ q : Nat, upQ (n - 1) c = q := ⟨_, rfl⟩
  have n2 : 2 ≤ n := by omega
  have n12 : n ≤ 12 := by omega
  have c1 : 1 ≤ c := by omega
  have c6 : c ≤ 6 := by omega
  have q1 : 1 ≤ q := by rw [← hq]; exact upQ_pos n2 c1
  have q2 : q ≤ 11 := by rw [← hq]; exact upQ_le c1 n2 n12
  have HK : Hid ((0 : Int) = K) := by show _ = K; rw [← HK0.out]; unfold Hs.spK; rw [HF.out, if_pos rfl, hR]; rfl
  have HV : Hid (spP n q c = V) := by show _ = V; rw [← HV0.out]; unfold Hs.spL; rw [HK0.out, ← HK.out, if_pos rfl, hn, Int.toNat_natCast, Int.toNat_natCast, ← hq]; rfl
  have HN : Hid (h.fl = (n : Int)) := hn
  have HQ : Hid (((n : Int) - 1 + (c : Int) - 1) / (c : Int) = (q : Int)) := by show _ = _; rw [upQ_eq n c n2, hq]
  have e1 : wrap64 ((n : Int) - 1) = (n : Int) - 1 := by unfold wrap64; omega
  clear hn hq
  go_upto_region 6 with (go_at_call 41; refine (l1In_any _ _ _ _).mono ?_; rw [hR]; rintro e w' ⟨rfl, hw⟩; obtain rfl := hw.symm; clear hw)
  have c0 := F0.out.c 0 _ rfl
  rw [HN.out] at c0
  clear hR f1 f2 g1 g2
  go_upto_region 7 with (go_at_call 42; refine (l1Up_any _ _ (by omega) (by omega) (by omega) (by omega) _).mono ?_; rw [HQ.out]; rintro e w' ⟨rfl, hw⟩; obtain rfl := hw.symm; clear hw)
  clear c0 e1
  go_upto_region 8 with (refine store_new [.int .i64 0, .slice none 0 0] 30 _ _ (by kernel_rfl) (by kernel_rfl) (by kernel_rfl) rfl rfl rfl rfl ?_)
  obtain ⟨b2, hb2⟩ : ∃ b2, b2 = w1.heap.size := ⟨_, rfl⟩
  obtain ⟨w2, hw2⟩ : ∃ w2, w2 = w1.alloc (.cells #[.int .i64 0, .slice none 0 0] 30) := ⟨_, rfl⟩
  have l12 : b1 < b2 := by rw [hb2]; exact F1.out.lt
  have leb2 : w.heap.size ≤ b2 := by omega
  have F2 : Hid (Blk w2 b2 [.int .i64 0, .slice none 0 0]) := by rw [hw2]; exact Blk.at_ w1 #[.int .i64 0, .slice none 0 0] _ _ hb2
  have F0 : Hid (Blk w2 b0 [.int .i64 h.fl, .int .i64 h.gp, .int .i64 h.ln, .int .i64 h.rf, .int .i64 h.sp, .int .i64 h.pu, .int .i64 h.br, .int .i64 h.dr, .int .i64 h.lv, .int .i64 h.dO, .int .i64 h.ld, .int .i64 h.qu]) := by rw [hw2]; exact F0.out.alloc _
  have F1 : Hid (Blk w2 b1 [.int .i64 0, .slice none 0 0]) := by rw [hw2]; exact F1.out.alloc _
  have FB : Hid (Below w.heap.size w w2) := by rw [hw2]; exact FB.out.alloc FB.out.size _
  (try simp only [Act.put])
  rw [← hw2, ← hb2]
  clear hw2 hb2
  obtain ⟨B2, hB2⟩ : ∃ B2, B2 = w2.heap.size := ⟨_, rfl⟩
  have lB2b : b2 < B2 := by rw [hB2]; exact F2.out.lt
  have HB2 : Hid (B2 ≤ w2.heap.size) := by show B2 ≤ _; omega
  have lB2 : w.heap.size ≤ B2 := by omega
  clear hB2
  go_wp2_with fail
  go_loopw [8] (fun kk wr => ∃ (k : Nat) (va : Option Addr) (vc : Nat), kk = .int .i64 (k : Int) ∧ k ≤ c ∧ OwI wr B2 (.slice va (spP n q k).length vc) (spP n q k) ∧ Blk wr b0 [.int .i64 h.fl, .int .i64 h.gp, .int .i64 h.ln, .int .i64 h.rf, .int .i64 h.sp, .int .i64 h.pu, .int .i64 h.br, .int .i64 h.dr, .int .i64 h.lv, .int .i64 h.dO, .int .i64 h.ld, .int .i64 h.qu] ∧ Blk wr b1 [.int .i64 0, .slice none 0 0] ∧ Blk wr b2 [.int .i64 0, .slice va (spP n q k).length vc] ∧ B2 ≤ wr.heap.size ∧ Below w.heap.size w wr) (fun kk _ => c - (intOf kk).toNat)
  case atStart => exact ⟨0, none, 0, rfl, by omega, owi_nil _ _, F0.out, F1.out, F2.out, HB2.out, FB.out⟩
  case round =>
    obtain ⟨k, va, vc, rfl, hk, ho, hf0, hf1, hf2, hs, hb⟩ := hrel
    have F0 : Hid (Blk wr b0 [.int .i64 h.fl, .int .i64 h.gp, .int .i64 h.ln, .int .i64 h.rf, .int .i64 h.sp, .int .i64 h.pu, .int .i64 h.br, .int .i64 h.dr, .int .i64 h.lv, .int .i64 h.dO, .int .i64 h.ld, .int .i64 h.qu]) := hf0
    have F1 : Hid (Blk wr b1 [.int .i64 0, .slice none 0 0]) := hf1
    have F2 : Hid (Blk wr b2 [.int .i64 0, .slice va (spP n q k).length vc]) := hf2
    have FB : Hid (Below w.heap.size w wr) := hb
    have HO : Hid (OwI wr B2 (.slice va (spP n q k).length vc) (spP n q k)) := ho
    have HS : Hid (B2 ≤ wr.heap.size) := hs
    clear hf0 hf1 hf2 hb ho hs HB2
    by_cases hlt : k < c
    · have d : decide ((k : Int) < (c : Int)) = true := decide_eq_true (by omega)
      have HE : Hid (spP n q (k + 1) = spP n q k ++ [((zoneM n q k : Nat) : Int)]) := spP_succ n q k
      have ll : (spP n q k).length ≤ 6 := by rw [spP_len]; omega
      obtain ⟨M, hM⟩ : ∃ M, spP n q k = M := ⟨_, rfl⟩
      rw [hM] at HO HE F2 ll
      clear hM
      obtain ⟨kI, hkI⟩ : ∃ x : Int, x = (k : Int) := ⟨_, rfl⟩
      obtain ⟨qI, hqI⟩ : ∃ x : Int, x = (q : Int) := ⟨_, rfl⟩
      obtain ⟨z, cn, k1, zI, lI, tI, hI, ek1, ez, el, et, eh, hL, hH, hK1, hZM, hc12, hc0, hcq, hcd⟩ := zone_nums n q k n2 n12 q1 q2 (by omega) kI qI hkI hqI
      have HZM : Hid (zoneM n q k = (if 1 + z < n then spanM (1 + z) cn else 1 ||| 2 ^ (n - 1))) := hZM
      have HCA : Hid ((1 + z < n → cn ≤ n - (1 + z) ∧ 1 ≤ cn) ∧ (¬ 1 + z < n → cn = 0) ∧ cn ≤ q ∧ (cn = q ∨ n ≤ 1 + z + cn)) := ⟨hc12, hc0, hcq, hcd⟩
      have HL : Hid (lI = ((1 + z : Nat) : Int)) := hL
      have HH : Hid (hI = ((1 + z + q : Nat) : Int)) := hH
      have HK1 : Hid (k1 = ((k + 1 : Nat) : Int)) := hK1
      have HEQ : Hid (wrap64 (kI + 1) = k1 ∧ wrap64 (k1 * qI) = tI ∧ wrap64 (1 + tI) = hI) := ⟨ek1, et, eh⟩
      have z0 := F0.out.c 0 _ rfl
      rw [HN.out] at z0
      have dk : decide (kI < (c : Int)) = true := by rw [hkI]; exact d
      rw [← hkI, ← hqI]
      have HKI : Hid (kI = (k : Int)) := hkI
      have HEL : Hid (wrap64 (1 + zI) = lI) := el
      clear hc12 hc0 hcq hcd hZM hL hH hK1 d hkI hqI ek1 et eh
      go_wp2_with fail
      clear ez el dk
      go_loopw [9, 10] (fun mm ff wx => ∃ f : Nat, mm = .int .i64 ((spanM (1 + z) (f - (1 + z)) : Nat) : Int) ∧ ff = .int .i64 (f : Int) ∧ 1 + z ≤ f ∧ f ≤ 1 + z + cn ∧ wx = wr) (fun _ ff _ => 1 + z + cn - (intOf ff).toNat)
      case atStart => exact ⟨1 + z, by rw [Nat.sub_self]; rfl, by first | rw [HEL.out, HL.out] | rw [HL.out], Nat.le_refl _, Nat.le_add_right _ _, rfl⟩
      case round =>
        obtain ⟨f, rfl, rfl, hf1, hf2, rfl⟩ := hrel
        obtain ⟨hc12, hc0, hcq, hcd⟩ := HCA.out
        by_cases hfl : f < 1 + z + cn
        · have fn12 : f < n := by
            by_cases cc : 1 + z < n
            · have := hc12 cc; omega
            · have := hc0 cc; omega
          have f12 : f < 12 := by omega
          have d1 : decide ((f : Int) < hI) = true := decide_eq_true (by have := HH.out; omega)
          have d2 : decide ((f : Int) < (n : Int)) = true := decide_eq_true (by omega)
          have HM : Hid (spanM (1 + z) (f + 1 - (1 + z)) = spanM (1 + z) (f - (1 + z)) ||| 2 ^ f) := by
            show _ = _
            rw [show f + 1 - (1 + z) = (f - (1 + z)) + 1 by omega]
            show spanM (1 + z) (f - (1 + z)) ||| 2 ^ (1 + z + (f - (1 + z))) = _
            rw [show 1 + z + (f - (1 + z)) = f by omega]
          have lm : spanM (1 + z) (f - (1 + z)) < 4096 := Nat.lt_of_lt_of_le (spanM_lt (n := 12) (by omega) (by omega)) (by decide)
          obtain ⟨S, hS⟩ : ∃ S, spanM (1 + z) (f - (1 + z)) = S := ⟨_, rfl⟩
          rw [hS] at HM lm ⊢
          have ew := wrap_pow f12
          have eo := or_pow lm f12
          obtain ⟨S1, hS1⟩ : ∃ S1, S ||| 2 ^ f = S1 := ⟨_, rfl⟩
          rw [hS1] at HM eo
          have HFF : Hid (1 + z ≤ f ∧ f < 1 + z + cn) := ⟨hf1, hfl⟩
          clear hS hS1 hc12 hc0 hcd hcq hf1 hf2 hfl
          obtain ⟨ek1, et, eh⟩ := HEQ.out
          go_wp2_with fail
          clear ek1 et eh
          go_roundw
          case rel => exact ⟨f + 1, by rw [HM.out], by simp, by have := HFF.out; omega, by have := HFF.out; omega, by first | rfl | trivial⟩
          case measure => have := HFF.out; simp [intOf]; omega
        · have e : f = 1 + z + cn := by omega
          have HSP : Hid (f - (1 + z) = cn) := by show _ = _; omega
          rw [HSP.out]
          have lm : spanM (1 + z) cn < 4096 := by
            by_cases cc : 1 + z < n
            · have := hc12 cc; exact Nat.lt_of_lt_of_le (spanM_lt (n := 12) (by omega) (by omega)) (by decide)
            · rw [hc0 cc]; show 1 < 4096; decide
          by_cases cc : 1 + z < n
          · have HZ : Hid (zoneM n q k = spanM (1 + z) cn) := by show _ = _; rw [HZM.out, if_pos cc]
            have ne : ((spanM (1 + z) cn : Nat) : Int) ≠ 1 := by have := spanM_ne (lo := 1 + z) (c := cn) (by omega) (hc12 cc).2; omega
            rw [HZ.out] at HE
            obtain ⟨S, hS⟩ : ∃ S, spanM (1 + z) cn = S := ⟨_, rfl⟩
            rw [hS] at HE ne lm ⊢
            have dne : (((S : Nat) : Int) == 1) = false := by simpa using ne
            have y1 := F2.out.c 1 _ rfl
            have y2 := F2.out.f 1 (by simp)
            by_cases dd : (f : Int) < hI
            · have d1 : decide ((f : Int) < hI) = true := decide_eq_true dd
              have d2 : decide ((f : Int) < (n : Int)) = false := decide_eq_false (by have := HH.out; omega)
              have d3 : n ≤ f := by have := of_decide_eq_false d2; omega
              clear hS e dd ne hc12 hc0 hcd hcq hf1 hf2 hfl cc
              obtain ⟨ek1, et, eh⟩ := HEQ.out
              go_wp2_with (at_builtin; refine app_iG _ B2 _ M (S : Int) _ _ rfl rfl rfl rfl HO.out (by omega) HS.out ?_; intro a' c' w7 ho2 hg; have G2 : Hid (Blk w7 b2 [.int .i64 0, .slice va M.length vc]) := F2.out.grown hg (fun e => by have := (HO.out.lt b2 e.symm).1; omega); have x1 := G2.out.c 1 _ rfl; have x2 := G2.out.f 1 (by simp))
              clear ek1 et eh
              go_roundw
              case rel => first | exact ⟨k + 1, a', c', by first | rw [HEQ.out.1, HK1.out] | rw [HK1.out], by omega, by rw [HE.out]; exact ho2.other (fun e => by have e2 : B2 ≤ b2 := (ho2.lt b2 e).1; omega) _, (F0.out.grown hg (fun e => by have := (HO.out.lt b0 e.symm).1; omega)).other (by omega), (F1.out.grown hg (fun e => by have := (HO.out.lt b1 e.symm).1; omega)).other (by omega), by rw [HE.out, List.length_append]; exact G2.out.set (k := 1) _ (by simp), by have := Nat.le_trans HS.out hg.size; simpa using this, (FB.out.grown hg FB.out.size (fun j hj => Nat.le_trans lB2 (HO.out.lt j hj).1)).setCell leb2 _⟩ | ((repeat apply Exists.intro); refine ⟨?_, rfl⟩; exact ⟨k + 1, a', c', by first | rw [HEQ.out.1, HK1.out] | rw [HK1.out], by omega, by rw [HE.out]; exact ho2.other (fun e => by have e2 : B2 ≤ b2 := (ho2.lt b2 e).1; omega) _, (F0.out.grown hg (fun e => by have := (HO.out.lt b0 e.symm).1; omega)).other (by omega), (F1.out.grown hg (fun e => by have := (HO.out.lt b1 e.symm).1; omega)).other (by omega), by rw [HE.out, List.length_append]; exact G2.out.set (k := 1) _ (by simp), by have := Nat.le_trans HS.out hg.size; simpa using this, (FB.out.grown hg FB.out.size (fun j hj => Nat.le_trans lB2 (HO.out.lt j hj).1)).setCell leb2 _⟩)
              case measure => first | (rw [HEQ.out.1, HK1.out, HKI.out]; simp [intOf]; omega) | (rw [HK1.out, HKI.out]; simp [intOf]; omega)
            · have d1 : decide ((f : Int) < hI) = false := decide_eq_false dd
              clear hS e dd ne hc12 hc0 hcd hcq hf1 hf2 hfl cc
              obtain ⟨ek1, et, eh⟩ := HEQ.out
              go_wp2_with (at_builtin; refine app_iG _ B2 _ M (S : Int) _ _ rfl rfl rfl rfl HO.out (by omega) HS.out ?_; intro a' c' w7 ho2 hg; have G2 : Hid (Blk w7 b2 [.int .i64 0, .slice va M.length vc]) := F2.out.grown hg (fun e => by have := (HO.out.lt b2 e.symm).1; omega); have x1 := G2.out.c 1 _ rfl; have x2 := G2.out.f 1 (by simp))
              clear ek1 et eh
              go_roundw
              case rel => first | exact ⟨k + 1, a', c', by first | rw [HEQ.out.1, HK1.out] | rw [HK1.out], by omega, by rw [HE.out]; exact ho2.other (fun e => by have e2 : B2 ≤ b2 := (ho2.lt b2 e).1; omega) _, (F0.out.grown hg (fun e => by have := (HO.out.lt b0 e.symm).1; omega)).other (by omega), (F1.out.grown hg (fun e => by have := (HO.out.lt b1 e.symm).1; omega)).other (by omega), by rw [HE.out, List.length_append]; exact G2.out.set (k := 1) _ (by simp), by have := Nat.le_trans HS.out hg.size; simpa using this, (FB.out.grown hg FB.out.size (fun j hj => Nat.le_trans lB2 (HO.out.lt j hj).1)).setCell leb2 _⟩ | ((repeat apply Exists.intro); refine ⟨?_, rfl⟩; exact ⟨k + 1, a', c', by first | rw [HEQ.out.1, HK1.out] | rw [HK1.out], by omega, by rw [HE.out]; exact ho2.other (fun e => by have e2 : B2 ≤ b2 := (ho2.lt b2 e).1; omega) _, (F0.out.grown hg (fun e => by have := (HO.out.lt b0 e.symm).1; omega)).other (by omega), (F1.out.grown hg (fun e => by have := (HO.out.lt b1 e.symm).1; omega)).other (by omega), by rw [HE.out, List.length_append]; exact G2.out.set (k := 1) _ (by simp), by have := Nat.le_trans HS.out hg.size; simpa using this, (FB.out.grown hg FB.out.size (fun j hj => Nat.le_trans lB2 (HO.out.lt j hj).1)).setCell leb2 _⟩)
              case measure => first | (rw [HEQ.out.1, HK1.out, HKI.out]; simp [intOf]; omega) | (rw [HK1.out, HKI.out]; simp [intOf]; omega)
          · have HZ : Hid (zoneM n q k = 1 ||| 2 ^ (n - 1)) := by show _ = _; rw [HZM.out, if_neg cc]
            have e0 : cn = 0 := hc0 cc
            rw [HZ.out] at HE
            have d2 : decide ((f : Int) < (n : Int)) = false := decide_eq_false (by omega)
            have d3 : n ≤ f := by omega
            have n1l : n - 1 < 12 := by omega
            have ew := wrap_pow n1l
            have eo : bits BinOp.or IntKind.i64 1 ((2 : Int) ^ (n - 1)) = ((1 ||| 2 ^ (n - 1) : Nat) : Int) := or_pow (M := 1) (by omega) n1l
            obtain ⟨S, hS⟩ : ∃ S, 1 ||| 2 ^ (n - 1) = S := ⟨_, rfl⟩
            rw [hS] at HE eo
            have es : ((spanM (1 + z) cn : Nat) : Int) = 1 := by rw [e0]; rfl
            rw [es]
            have y1 := F2.out.c 1 _ rfl
            have y2 := F2.out.f 1 (by simp)
            by_cases dd : (f : Int) < hI
            · have d1 : decide ((f : Int) < hI) = true := decide_eq_true dd
              clear hS e dd hc12 hc0 hcd hcq hf1 hf2 hfl e0 es lm cc
              obtain ⟨ek1, et, eh⟩ := HEQ.out
              go_wp2_with (at_builtin; refine app_iG _ B2 _ M (S : Int) _ _ rfl rfl rfl rfl HO.out (by omega) HS.out ?_; intro a' c' w7 ho2 hg; have G2 : Hid (Blk w7 b2 [.int .i64 0, .slice va M.length vc]) := F2.out.grown hg (fun e => by have := (HO.out.lt b2 e.symm).1; omega); have x1 := G2.out.c 1 _ rfl; have x2 := G2.out.f 1 (by simp))
              clear ek1 et eh
              go_roundw
              case rel => first | exact ⟨k + 1, a', c', by first | rw [HEQ.out.1, HK1.out] | rw [HK1.out], by omega, by rw [HE.out]; exact ho2.other (fun e => by have e2 : B2 ≤ b2 := (ho2.lt b2 e).1; omega) _, (F0.out.grown hg (fun e => by have := (HO.out.lt b0 e.symm).1; omega)).other (by omega), (F1.out.grown hg (fun e => by have := (HO.out.lt b1 e.symm).1; omega)).other (by omega), by rw [HE.out, List.length_append]; exact G2.out.set (k := 1) _ (by simp), by have := Nat.le_trans HS.out hg.size; simpa using this, (FB.out.grown hg FB.out.size (fun j hj => Nat.le_trans lB2 (HO.out.lt j hj).1)).setCell leb2 _⟩ | ((repeat apply Exists.intro); refine ⟨?_, rfl⟩; exact ⟨k + 1, a', c', by first | rw [HEQ.out.1, HK1.out] | rw [HK1.out], by omega, by rw [HE.out]; exact ho2.other (fun e => by have e2 : B2 ≤ b2 := (ho2.lt b2 e).1; omega) _, (F0.out.grown hg (fun e => by have := (HO.out.lt b0 e.symm).1; omega)).other (by omega), (F1.out.grown hg (fun e => by have := (HO.out.lt b1 e.symm).1; omega)).other (by omega), by rw [HE.out, List.length_append]; exact G2.out.set (k := 1) _ (by simp), by have := Nat.le_trans HS.out hg.size; simpa using this, (FB.out.grown hg FB.out.size (fun j hj => Nat.le_trans lB2 (HO.out.lt j hj).1)).setCell leb2 _⟩)
              case measure => first | (rw [HEQ.out.1, HK1.out, HKI.out]; simp [intOf]; omega) | (rw [HK1.out, HKI.out]; simp [intOf]; omega)
            · have d1 : decide ((f : Int) < hI) = false := decide_eq_false dd
              clear hS e dd hc12 hc0 hcd hcq hf1 hf2 hfl e0 es lm cc
              obtain ⟨ek1, et, eh⟩ := HEQ.out
              go_wp2_with (at_builtin; refine app_iG _ B2 _ M (S : Int) _ _ rfl rfl rfl rfl HO.out (by omega) HS.out ?_; intro a' c' w7 ho2 hg; have G2 : Hid (Blk w7 b2 [.int .i64 0, .slice va M.length vc]) := F2.out.grown hg (fun e => by have := (HO.out.lt b2 e.symm).1; omega); have x1 := G2.out.c 1 _ rfl; have x2 := G2.out.f 1 (by simp))
              clear ek1 et eh
              go_roundw
              case rel => first | exact ⟨k + 1, a', c', by first | rw [HEQ.out.1, HK1.out] | rw [HK1.out], by omega, by rw [HE.out]; exact ho2.other (fun e => by have e2 : B2 ≤ b2 := (ho2.lt b2 e).1; omega) _, (F0.out.grown hg (fun e => by have := (HO.out.lt b0 e.symm).1; omega)).other (by omega), (F1.out.grown hg (fun e => by have := (HO.out.lt b1 e.symm).1; omega)).other (by omega), by rw [HE.out, List.length_append]; exact G2.out.set (k := 1) _ (by simp), by have := Nat.le_trans HS.out hg.size; simpa using this, (FB.out.grown hg FB.out.size (fun j hj => Nat.le_trans lB2 (HO.out.lt j hj).1)).setCell leb2 _⟩ | ((repeat apply Exists.intro); refine ⟨?_, rfl⟩; exact ⟨k + 1, a', c', by first | rw [HEQ.out.1, HK1.out] | rw [HK1.out], by omega, by rw [HE.out]; exact ho2.other (fun e => by have e2 : B2 ≤ b2 := (ho2.lt b2 e).1; omega) _, (F0.out.grown hg (fun e => by have := (HO.out.lt b0 e.symm).1; omega)).other (by omega), (F1.out.grown hg (fun e => by have := (HO.out.lt b1 e.symm).1; omega)).other (by omega), by rw [HE.out, List.length_append]; exact G2.out.set (k := 1) _ (by simp), by have := Nat.le_trans HS.out hg.size; simpa using this, (FB.out.grown hg FB.out.size (fun j hj => Nat.le_trans lB2 (HO.out.lt j hj).1)).setCell leb2 _⟩)
              case measure => first | (rw [HEQ.out.1, HK1.out, HKI.out]; simp [intOf]; omega) | (rw [HK1.out, HKI.out]; simp [intOf]; omega)
    · have d : decide ((k : Int) < (c : Int)) = false := decide_eq_false (by omega)
      have e : k = c := by omega
      subst e
      have HO2 : Hid (OwI wr w.heap.size (.slice va (spP n q k).length vc) V) := by
        have z := HO.out.base lB2
        rw [HV.out] at z ⊢
        exact z
      have HOb : Hid (∀ j, (Value.slice va (spP n q k).length vc).ownBlock = some j → b1 < j) := fun j hj => Nat.lt_of_lt_of_le (by omega) (HO.out.lt j hj).1
      rw [HV.out] at HO2 HOb F2
      clear HO HV
      have HO := HO2
      have HOV : Hid (OwI (wr.setRow b1 #[.int .i64 0, .slice va V.length vc]) w.heap.size (.slice va V.length vc) V) := OwI.kept (row := some b1) HO.out ⟨rfl, rfl, rfl, by simp, fun k _ hne => setRow_other _ b1 k _ (fun q => hne (by rw [q]))⟩ (Or.inr (fun c => by have := HOb.out b1 c; omega))
      go_wp2_with (first | (refine load_blk 30 _ Try.underlying30 (by kernel_rfl) F2.out rfl rfl rfl ?_) | (refine store_blk [.int .i64 (0), .slice va V.length vc] 30 _ _ (by kernel_rfl) (by kernel_rfl) (by kernel_rfl) F1.out rfl rfl rfl rfl ?_))
      exact bodyPost_ret (v := .agg #[.int .i64 (0), .slice va V.length vc]) ((F1.out.row [.int .i64 (0), .slice va V.length vc]).res _ Try.results11 Try.underlying30 (by kernel_rfl) rfl) rfl ⟨⟨_, by rw [HK.out], HOV.out⟩, below_row FB.out leb1 _⟩
end Go.Proofs.Ytnpnlckdggakmaa
