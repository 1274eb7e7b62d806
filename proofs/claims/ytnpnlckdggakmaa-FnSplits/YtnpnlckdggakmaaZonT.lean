/-
  Zones that are split (the program).
-/
import Derived.Test.YtnpnlckdggakmaaZonS
import Derived.Test.YtnpnlckdggakmaaZonG
import Derived.Test.YtnpnlckdggakmaaFnd
import Derived.Test.YtnpnlckdggakmaaZonI
namespace Go.Proofs.Ytnpnlckdggakmaa
open Go.RowKit Pl
set_option linter.unusedSimpArgs false
set_option linter.unusedVariables false

set_option maxRecDepth 20000 in
set_option maxHeartbeats 16000000 in
theorem zoneFrom_at (h : Hs) (n lo q st c : Nat) (hn : h.fl = (n : Int)) (n2 : 2 ≤ n) (n12 : n ≤ 12) (q1 : 1 ≤ q) (q2 : q ≤ 11) (lo2 : lo ≤ 100) (hst : st = min lo (n - 1)) (hc : st + c = min (lo + q - 1) (n - 1) + 1) (w : World) :
    Calls Try.prog 38 #[.agg #[.int .i64 h.fl, .int .i64 h.gp, .int .i64 h.ln, .int .i64 h.rf, .int .i64 h.sp, .int .i64 h.pu, .int .i64 h.br, .int .i64 h.dr, .int .i64 h.lv, .int .i64 h.dO, .int .i64 h.ld, .int .i64 h.qu], .int .i64 (lo : Int), .int .i64 (q : Int)] w fun e w' => e = .returned (.agg (bvs (spanM st c)).toArray) ∧ Below w.heap.size w w' := by
  obtain ⟨b0, hb0⟩ : ∃ b0, b0 = w.heap.size := ⟨_, rfl⟩
  obtain ⟨b1, hb1⟩ : ∃ b1, b1 = b0 + 1 := ⟨_, rfl⟩
  obtain ⟨b2, hb2⟩ : ∃ b2, b2 = b0 + 1 + 1 := ⟨_, rfl⟩
  obtain ⟨W0, hW0⟩ : ∃ W0, W0 = ((w.alloc (.cells #[.int .i64 h.fl, .int .i64 h.gp, .int .i64 h.ln, .int .i64 h.rf, .int .i64 h.sp, .int .i64 h.pu, .int .i64 h.br, .int .i64 h.dr, .int .i64 h.lv, .int .i64 h.dO, .int .i64 h.ld, .int .i64 h.qu] 25)).alloc (.cells #[.int .u8 0, .int .u8 0, .int .u8 0, .int .u8 0, .int .u8 0, .int .u8 0, .int .u8 0, .int .u8 0, .int .u8 0, .int .u8 0, .int .u8 0, .int .u8 0] 61)).alloc (.cells #[.int .u8 0, .int .u8 0, .int .u8 0, .int .u8 0, .int .u8 0, .int .u8 0, .int .u8 0, .int .u8 0, .int .u8 0, .int .u8 0, .int .u8 0, .int .u8 0] 61) := ⟨_, rfl⟩
  have F0 : Hid (Blk W0 b0 [.int .i64 h.fl, .int .i64 h.gp, .int .i64 h.ln, .int .i64 h.rf, .int .i64 h.sp, .int .i64 h.pu, .int .i64 h.br, .int .i64 h.dr, .int .i64 h.lv, .int .i64 h.dO, .int .i64 h.ld, .int .i64 h.qu]) := by rw [hW0]; exact ((Blk.at_ w #[.int .i64 h.fl, .int .i64 h.gp, .int .i64 h.ln, .int .i64 h.rf, .int .i64 h.sp, .int .i64 h.pu, .int .i64 h.br, .int .i64 h.dr, .int .i64 h.lv, .int .i64 h.dO, .int .i64 h.ld, .int .i64 h.qu] _ _ hb0).alloc _).alloc _
  have F1 : Hid (Blk W0 b1 (bvs 0)) := by rw [hW0, ← zero_bvs]; exact (Blk.at_ _ #[.int .u8 0, .int .u8 0, .int .u8 0, .int .u8 0, .int .u8 0, .int .u8 0, .int .u8 0, .int .u8 0, .int .u8 0, .int .u8 0, .int .u8 0, .int .u8 0] _ _ (by simp; omega)).alloc _
  have F2 : Hid (Blk W0 b2 (bvs 0)) := by rw [hW0, ← zero_bvs]; exact Blk.at_ _ #[.int .u8 0, .int .u8 0, .int .u8 0, .int .u8 0, .int .u8 0, .int .u8 0, .int .u8 0, .int .u8 0, .int .u8 0, .int .u8 0, .int .u8 0, .int .u8 0] _ _ (by simp; omega)
  have FB : Hid (Below w.heap.size w W0) := by rw [hW0]; exact (((Below.refl _ _).alloc (Nat.le_refl _) _).alloc (by simp) _).alloc (by simp; omega) _
  have leb1 : w.heap.size ≤ b1 := by omega
  have leb2 : w.heap.size ≤ b2 := by omega
  have l01 : b0 < b1 := by omega
  have l12 : b1 < b2 := by omega
  have HN : Hid (h.fl = (n : Int)) := hn
  have HST : Hid (st = min lo (n - 1)) := hst
  have HC : Hid (st + c = min (lo + q - 1) (n - 1) + 1) := hc
  clear hn hst hc
  go_enter Try.func38, Try.ntmps38
  go_upto_region 2 with fail
  rw [← hb0, ← hb2, ← hb1, ← hW0]
  clear hb0 hb1 hb2 hW0
  have c2 := F2.out.c 0 _ (bvs_get (by omega))
  have k2 := F2.out.f 0 (by rw [bvs_len]; omega)
  have G2 : Hid (Blk (W0.setCell ⟨b2, 0, none⟩ (.int .u8 1)) b2 (bvs 1)) := by
    have z := F2.out.set (k := 0) (.int .u8 1) (by rw [bvs_len]; omega)
    rw [bvs_set (by omega)] at z
    exact z
  have G0 : Hid (Blk (W0.setCell ⟨b2, 0, none⟩ (.int .u8 1)) b0 [.int .i64 h.fl, .int .i64 h.gp, .int .i64 h.ln, .int .i64 h.rf, .int .i64 h.sp, .int .i64 h.pu, .int .i64 h.br, .int .i64 h.dr, .int .i64 h.lv, .int .i64 h.dO, .int .i64 h.ld, .int .i64 h.qu]) := F0.out.other (by omega)
  have G1 : Hid (Blk (W0.setCell ⟨b2, 0, none⟩ (.int .u8 1)) b1 (bvs 0)) := F1.out.other (by omega)
  have GB : Hid (Below w.heap.size w (W0.setCell ⟨b2, 0, none⟩ (.int .u8 1))) := FB.out.setCell leb2 _
  go_upto_region 3 with fail
  obtain ⟨W1, hW1⟩ : ∃ W1, W1 = W0.setCell ⟨b2, 0, none⟩ (.int .u8 1) := ⟨_, rfl⟩
  rw [← hW1] at G0 G1 G2 GB ⊢
  clear hW1 c2 k2 F0 F1 F2 FB
  have c0 := G0.out.c 0 _ rfl
  rw [HN.out] at c0
  have e1 : wrap64 ((n : Int) - 1) = (n : Int) - 1 := by unfold wrap64; omega
  have e2 : wrap64 ((lo : Int) + (q : Int)) = (lo : Int) + (q : Int) := by unfold wrap64; omega
  have e3 : wrap64 ((lo : Int) + (q : Int) - 1) = (lo : Int) + (q : Int) - 1 := by unfold wrap64; omega
  obtain ⟨en, hen⟩ : ∃ en : Nat, en = min (lo + q - 1) (n - 1) := ⟨_, rfl⟩
  have hst := HST.out
  have HCC : Hid (st + c = en + 1) := by show _ = _; rw [hen]; exact HC.out
  have s12 : st ≤ 11 := by omega
  have HS : Hid ((lo : Int) ≤ (n : Int) - 1 ∧ (st : Int) = (lo : Int) ∨ (n : Int) - 1 < (lo : Int) ∧ (st : Int) = (n : Int) - 1) := by show _ ∨ _; omega
  have HE : Hid ((lo : Int) + (q : Int) - 1 ≤ (n : Int) - 1 ∧ (en : Int) = (lo : Int) + (q : Int) - 1 ∨ (n : Int) - 1 < (lo : Int) + (q : Int) - 1 ∧ (en : Int) = (n : Int) - 1) := by show _ ∨ _; omega
  have l11 : en ≤ 11 := by omega
  clear hst hen HST HC
  rcases HS.out with ⟨hs, es⟩ | ⟨hs, es⟩
  all_goals
    rcases HE.out with ⟨he, ee⟩ | ⟨he, ee⟩
  any_goals (exfalso; omega)
  all_goals
    have ES : Hid _ := es
    have EE : Hid _ := ee
    clear es ee HS HE
    go_wp2_with fail
    go_loopw [9] (fun ff wr => ∃ k : Nat, ff = .int .i64 (k : Int) ∧ st ≤ k ∧ k ≤ en + 1 ∧ Blk wr b0 [.int .i64 h.fl, .int .i64 h.gp, .int .i64 h.ln, .int .i64 h.rf, .int .i64 h.sp, .int .i64 h.pu, .int .i64 h.br, .int .i64 h.dr, .int .i64 h.lv, .int .i64 h.dO, .int .i64 h.ld, .int .i64 h.qu] ∧ Blk wr b1 (bvs 0) ∧ Blk wr b2 (bvs (spanM st (k - st))) ∧ Below w.heap.size w wr) (fun ff _ => en + 1 - (intOf ff).toNat)
    case atStart => exact ⟨st, by rw [ES.out], Nat.le_refl _, by have := HCC.out; omega, G0.out, G1.out, by rw [Nat.sub_self]; exact G2.out, GB.out⟩
    case round =>
      obtain ⟨k, rfl, hk1, hk2, h0, h1, h2, hb⟩ := hrel
      have c0 := h0.c 0 _ rfl
      rw [HN.out] at c0
      by_cases hlt : k ≤ en
      · have d1 : (k : Int) ≤ (lo : Int) + (q : Int) - 1 := by have := EE.out; omega
        have d2 : (k : Int) ≤ (n : Int) - 1 := by have := EE.out; omega
        have k12 : k < 12 := by omega
        have z2 := h2.c k _ (bvs_get k12)
        have y2 := h2.f k (by rw [bvs_len]; exact k12)
        have H2 : Hid (Blk (wr.setCell ⟨b2, k, none⟩ (.int .u8 1)) b2 (bvs (spanM st (k + 1 - st)))) := by
          have z := h2.set (k := k) (.int .u8 1) (by rw [bvs_len]; exact k12)
          rw [bvs_set k12] at z
          have e : spanM st (k + 1 - st) = spanM st (k - st) ||| 2 ^ k := by
            rw [show k + 1 - st = (k - st) + 1 by omega]
            show spanM st (k - st) ||| 2 ^ (st + (k - st)) = _
            rw [show st + (k - st) = k by omega]
          rw [e]
          exact z
        go_wp2_with fail
        go_roundw
        case rel => exact ⟨k + 1, by simp, by omega, by omega, h0.other (by omega), h1.other (by omega), H2.out, hb.setCell leb2 _⟩
        case measure => simp [intOf]; omega
      · have e : k = en + 1 := by omega
        have H2 : Hid (Blk wr b2 (bvs (spanM st c))) := by
          have q : k - st = c := by have := HCC.out; omega
          rw [q] at h2
          exact h2
        first
          | (have dn : ¬ ((k : Int) ≤ (lo : Int) + (q : Int) - 1) := by have := EE.out; omega)
          | (have dn : ¬ ((k : Int) ≤ (n : Int) - 1) := by have := EE.out; omega)
        clear e hk1 hk2 hlt h2
        go_wp2_with (first | (refine load_arr 61 _ undFS (bvs_info (spanM st c)) H2.out rfl rfl rfl ?_) | (refine store_blk (bvs (spanM st c)) 61 _ _ (bvs_info (spanM st c)) (by rw [bvs_size, bvs_size]) (bvs_one (spanM st c)) h1 rfl rfl rfl rfl ?_))
        exact bodyPost_ret (v := .agg (bvs (spanM st c)).toArray) ((h1.row (bvs (spanM st c))).resA _ Try.results38 undFS (bvs_info (spanM st c)) rfl) rfl ⟨rfl, below_row hb leb1 _⟩
theorem zone_pre (h : Hs) (n q k : Nat) (hn : h.fl = (n : Int)) (n2 : 2 ≤ n) (n12 : n ≤ 12) (q1 : 1 ≤ q) (q2 : q ≤ 11) (k6 : k ≤ 6) :
    ∃ z : Nat, (k : Int) * (q : Int) = (z : Int) ∧ wrap64 (z : Int) = (z : Int) ∧ wrap64 (1 + (z : Int)) = 1 + (z : Int) ∧ ∀ W, Calls Try.prog 38 #[.agg #[.int .i64 h.fl, .int .i64 h.gp, .int .i64 h.ln, .int .i64 h.rf, .int .i64 h.sp, .int .i64 h.pu, .int .i64 h.br, .int .i64 h.dr, .int .i64 h.lv, .int .i64 h.dO, .int .i64 h.ld, .int .i64 h.qu], .int .i64 (1 + (z : Int)), .int .i64 (q : Int)] W fun e w' => e = .returned (.agg (bvs (zoneM n q k)).toArray) ∧ Below W.heap.size W w' := by
  have lz : k * q ≤ 6 * 11 := Nat.mul_le_mul k6 q2
  have hzI : (k : Int) * (q : Int) = ((k * q : Nat) : Int) := (Int.natCast_mul k q).symm
  unfold zoneM cntM
  generalize k * q = z at *
  have z66 : z ≤ 66 := lz
  refine ⟨z, hzI, ?_, ?_, ?_⟩
  · clear hzI; exact wrap_small (by omega) (by omega)
  · clear hzI; exact wrap_small (by omega) (by omega)
  intro W
  clear hzI
  have e : (1 + (z : Int)) = ((1 + z : Nat) : Int) := by omega
  rw [e]
  by_cases cc : 1 + z < n
  · rw [if_pos cc]
    exact zoneFrom_at h n (1 + z) q (1 + z) (min q (n - (1 + z))) hn n2 n12 q1 q2 (by omega) (by omega) (by omega) W
  · rw [if_neg cc]
    exact zoneFrom_at h n (1 + z) q (n - 1) 1 hn n2 n12 q1 q2 (by omega) (by omega) (by omega) W
set_option maxRecDepth 20000 in
set_option maxHeartbeats 16000000 in
theorem implSplit_any (h : Hs) (cc : Int) (w : World) :
    Calls Try.prog 10 #[.agg #[.int .i64 h.fl, .int .i64 h.gp, .int .i64 h.ln, .int .i64 h.rf, .int .i64 h.sp, .int .i64 h.pu, .int .i64 h.br, .int .i64 h.dr, .int .i64 h.lv, .int .i64 h.dO, .int .i64 h.ld, .int .i64 h.qu], .int .i64 cc] w fun e w' => (∃ v, e = .returned (.agg #[.int .i64 (h.spK cc), v]) ∧ OwI w' w.heap.size v (h.spL cc)) ∧ Below w.heap.size w w' := by
  obtain ⟨K, hK⟩ : ∃ K, h.spK cc = K := ⟨_, rfl⟩
  obtain ⟨V, hV⟩ : ∃ V, h.spL cc = V := ⟨_, rfl⟩
  rw [hK, hV]
  have HK0 : Hid (h.spK cc = K) := hK
  have HV0 : Hid (h.spL cc = V) := hV
  clear hK hV
  obtain ⟨b0, hb0⟩ : ∃ b0, b0 = w.heap.size := ⟨_, rfl⟩
  obtain ⟨b1, hb1⟩ : ∃ b1, b1 = b0 + 1 := ⟨_, rfl⟩
  obtain ⟨W0, hW0⟩ : ∃ W0, W0 = (w.alloc (.cells #[.int .i64 h.fl, .int .i64 h.gp, .int .i64 h.ln, .int .i64 h.rf, .int .i64 h.sp, .int .i64 h.pu, .int .i64 h.br, .int .i64 h.dr, .int .i64 h.lv, .int .i64 h.dO, .int .i64 h.ld, .int .i64 h.qu] 25)).alloc (.cells #[.int .i64 0, .slice none 0 0] 30) := ⟨_, rfl⟩
  have F0 : Hid (Blk W0 b0 [.int .i64 h.fl, .int .i64 h.gp, .int .i64 h.ln, .int .i64 h.rf, .int .i64 h.sp, .int .i64 h.pu, .int .i64 h.br, .int .i64 h.dr, .int .i64 h.lv, .int .i64 h.dO, .int .i64 h.ld, .int .i64 h.qu]) := by rw [hW0]; exact (Blk.at_ w #[.int .i64 h.fl, .int .i64 h.gp, .int .i64 h.ln, .int .i64 h.rf, .int .i64 h.sp, .int .i64 h.pu, .int .i64 h.br, .int .i64 h.dr, .int .i64 h.lv, .int .i64 h.dO, .int .i64 h.ld, .int .i64 h.qu] _ _ hb0).alloc _
  have F1 : Hid (Blk W0 b1 [.int .i64 0, .slice none 0 0]) := by rw [hW0]; exact Blk.at_ _ #[.int .i64 0, .slice none 0 0] _ _ (by simp; omega)
  have FB : Hid (Below w.heap.size w W0) := by rw [hW0]; exact ((Below.refl _ _).alloc (Nat.le_refl _) _).alloc (by simp) _
  have leb0 : w.heap.size ≤ b0 := by omega
  have leb1 : w.heap.size ≤ b1 := by omega
  have l01 : b0 < b1 := by omega
  obtain ⟨kf, hkf⟩ : ∃ kf, h.fault = kf := ⟨_, rfl⟩
  have HF : Hid (h.fault = kf) := hkf
  clear hkf
  go_enter Try.func10, Try.ntmps10
  go_upto_region 1 with fail
  rw [← hb0, ← hb1, ← hW0]
  clear hb0 hb1 hW0
  go_upto_region 2 with (first | (refine load_blk 25 _ Try.underlying25 (by kernel_rfl) F0.out rfl rfl rfl ?_) | (go_at_call 35; refine (implFault_any h _).mono ?_; rw [HF.out]; rintro e w1 ⟨rfl, hb⟩; have F0 : Hid (Blk w1 b0 [.int .i64 h.fl, .int .i64 h.gp, .int .i64 h.ln, .int .i64 h.rf, .int .i64 h.sp, .int .i64 h.pu, .int .i64 h.br, .int .i64 h.dr, .int .i64 h.lv, .int .i64 h.dO, .int .i64 h.ld, .int .i64 h.qu]) := F0.out.below hb F0.out.lt; have F1 : Hid (Blk w1 b1 [.int .i64 0, .slice none 0 0]) := F1.out.below hb F1.out.lt; have FB : Hid (Below w.heap.size w w1) := FB.out.trans (hb.mono FB.out.size); clear hb))
  by_cases hz : kf = 0
  case neg =>
    have hn : (kf != 0) = true := by simpa using hz
    have HK : Hid ((kf : Int) = K) := by show _ = K; rw [← HK0.out]; unfold Hs.spK; rw [HF.out, if_neg hz]
    have HV : Hid ([] = V) := by show _ = V; rw [← HV0.out]; unfold Hs.spL; rw [HK0.out, ← HK.out, if_neg (by first | assumption | decide)]
    go_wp2_with (first | (refine store_blk [.int .i64 (kf), .slice none 0 0] 30 _ _ (by kernel_rfl) (by kernel_rfl) (by kernel_rfl) F1.out rfl rfl rfl rfl ?_))
    exact bodyPost_ret (v := .agg #[.int .i64 (kf), .slice none 0 0]) ((F1.out.row [.int .i64 (kf), .slice none 0 0]).res _ Try.results10 Try.underlying30 (by kernel_rfl) rfl) rfl ⟨⟨_, by rw [HK.out], by rw [← HV.out]; exact owi_nil _ _⟩, below_row FB.out leb1 _⟩
  case pos =>
  subst hz
  obtain ⟨f1, f2⟩ := fl_of HF.out
  cases hR : inB cc 1 6
  · skip
    have HK : Hid ((3 : Int) = K) := by show _ = K; rw [← HK0.out]; unfold Hs.spK; rw [HF.out, if_pos rfl, hR]; rfl
    have HV : Hid ([] = V) := by show _ = V; rw [← HV0.out]; unfold Hs.spL; rw [HK0.out, ← HK.out, if_neg (by first | assumption | decide)]
    go_wp2_with (first | (go_at_call 36; refine (isWithin_any _ _ _ _).mono ?_; rw [hR]; rintro e w' ⟨rfl, hw⟩; obtain rfl := hw.symm; clear hw) | (refine store_blk [.int .i64 (3), .slice none 0 0] 30 _ _ (by kernel_rfl) (by kernel_rfl) (by kernel_rfl) F1.out rfl rfl rfl rfl ?_))
    exact bodyPost_ret (v := .agg #[.int .i64 (3), .slice none 0 0]) ((F1.out.row [.int .i64 (3), .slice none 0 0]).res _ Try.results10 Try.underlying30 (by kernel_rfl) rfl) rfl ⟨⟨_, by rw [HK.out], by rw [← HV.out]; exact owi_nil _ _⟩, below_row FB.out leb1 _⟩
  obtain ⟨g1, g2⟩ := inB_iff.1 hR
  obtain ⟨c, rfl⟩ : ∃ c : Nat, cc = (c : Int) := ⟨cc.toNat, by omega⟩
  obtain ⟨n, hn⟩ : ∃ n : Nat, h.fl = (n : Int) := ⟨h.fl.toNat, by omega⟩
  obtain ⟨q, hq⟩ : ∃ q : Nat, upQ (n - 1) c = q := ⟨_, rfl⟩
  have n2 : 2 ≤ n := by omega
  have n12 : n ≤ 12 := by omega
  have c1 : 1 ≤ c := by omega
  have c6 : c ≤ 6 := by omega
  have q1 : 1 ≤ q := by rw [← hq]; exact upQ_pos n2 c1
  have q2 : q ≤ 11 := by rw [← hq]; exact upQ_le c1 n2 n12
  have HK : Hid ((0 : Int) = K) := by show _ = K; rw [← HK0.out]; unfold Hs.spK; rw [HF.out, if_pos rfl, hR]; rfl
  have HV : Hid (spP n q c = V) := by show _ = V; rw [← HV0.out]; unfold Hs.spL; rw [HK0.out, ← HK.out, if_pos rfl, hn, Int.toNat_natCast, Int.toNat_natCast, ← hq]; rfl
  have HN : Hid (h.fl = (n : Int)) := hn
  have HQ : Hid (((n : Int) - 1 + (c : Int) - 1) / (c : Int) = (q : Int)) := by show _ = _; rw [upQ_eq n c n2, hq]
  have e1 : wrap64 ((n : Int) - 1) = (n : Int) - 1 := by unfold wrap64; omega
  clear hn hq
  go_upto_region 6 with (go_at_call 36; refine (isWithin_any _ _ _ _).mono ?_; rw [hR]; rintro e w' ⟨rfl, hw⟩; obtain rfl := hw.symm; clear hw)
  have c0 := F0.out.c 0 _ rfl
  rw [HN.out] at c0
  clear hR f1 f2 g1 g2
  go_upto_region 7 with (go_at_call 37; refine (quotientUp_any _ _ (by omega) (by omega) (by omega) (by omega) _).mono ?_; rw [HQ.out]; rintro e w' ⟨rfl, hw⟩; obtain rfl := hw.symm; clear hw)
  clear c0 e1
  obtain ⟨B2, hB2⟩ : ∃ B2, B2 = w1.heap.size := ⟨_, rfl⟩
  have lB0 : b0 < B2 := by rw [hB2]; exact F0.out.lt
  have lB1 : b1 < B2 := by rw [hB2]; exact F1.out.lt
  have lB2 : w.heap.size ≤ B2 := by omega
  have HB2 : Hid (B2 ≤ w1.heap.size) := by show B2 ≤ _; omega
  clear hB2
  go_wp2_with fail
  go_loopw [7, 25] (fun zz kk wr => ∃ (k : Nat) (va : Option Addr) (vc : Nat), zz = .slice va (spP n q k).length vc ∧ kk = .int .i64 (k : Int) ∧ k ≤ c ∧ OwI wr B2 (.slice va (spP n q k).length vc) (spP n q k) ∧ Blk wr b0 [.int .i64 h.fl, .int .i64 h.gp, .int .i64 h.ln, .int .i64 h.rf, .int .i64 h.sp, .int .i64 h.pu, .int .i64 h.br, .int .i64 h.dr, .int .i64 h.lv, .int .i64 h.dO, .int .i64 h.ld, .int .i64 h.qu] ∧ Blk wr b1 [.int .i64 0, .slice none 0 0] ∧ B2 ≤ wr.heap.size ∧ Below w.heap.size w wr) (fun _ kk _ => c - (intOf kk).toNat)
  case atStart => exact ⟨0, none, 0, rfl, rfl, by omega, owi_nil _ _, F0.out, F1.out, HB2.out, FB.out⟩
  case round =>
    obtain ⟨k, va, vc, rfl, rfl, hk, ho, hf0, hf1, hs, hb⟩ := hrel
    have F0 : Hid (Blk wr b0 [.int .i64 h.fl, .int .i64 h.gp, .int .i64 h.ln, .int .i64 h.rf, .int .i64 h.sp, .int .i64 h.pu, .int .i64 h.br, .int .i64 h.dr, .int .i64 h.lv, .int .i64 h.dO, .int .i64 h.ld, .int .i64 h.qu]) := hf0
    have F1 : Hid (Blk wr b1 [.int .i64 0, .slice none 0 0]) := hf1
    have FB : Hid (Below w.heap.size w wr) := hb
    have HO : Hid (OwI wr B2 (.slice va (spP n q k).length vc) (spP n q k)) := ho
    have HS : Hid (B2 ≤ wr.heap.size) := hs
    clear hf0 hf1 hb ho hs HB2
    by_cases hlt : k < c
    · have d : decide ((k : Int) < (c : Int)) = true := decide_eq_true (by omega)
      have HE : Hid (spP n q (k + 1) = spP n q k ++ [((zoneM n q k : Nat) : Int)]) := spP_succ n q k
      have ll : (spP n q k).length ≤ 6 := by rw [spP_len]; omega
      obtain ⟨M, hM⟩ : ∃ M, spP n q k = M := ⟨_, rfl⟩
      rw [hM] at HO HE ll ⊢
      obtain ⟨z, hzI, w1z, w2z, hzC⟩ := zone_pre h n q k HN.out n2 n12 q1 q2 (by omega)
      have HZ : Hid (∀ W, Calls Try.prog 38 #[.agg #[.int .i64 h.fl, .int .i64 h.gp, .int .i64 h.ln, .int .i64 h.rf, .int .i64 h.sp, .int .i64 h.pu, .int .i64 h.br, .int .i64 h.dr, .int .i64 h.lv, .int .i64 h.dO, .int .i64 h.ld, .int .i64 h.qu], .int .i64 (1 + (z : Int)), .int .i64 (q : Int)] W fun e w' => e = .returned (.agg (bvs (zoneM n q k)).toArray) ∧ Below W.heap.size W w') := hzC
      clear hzC
      have lm : zoneM n q k < 4096 := Nat.lt_of_lt_of_le (zoneM_lt n2) (p12n n12)
      obtain ⟨Z, hZ⟩ : ∃ Z, zoneM n q k = Z := ⟨_, rfl⟩
      rw [hZ] at HZ HE lm
      clear hZ hM
      go_wp2_with (first | (refine load_blk 25 _ Try.underlying25 (by kernel_rfl) F0.out rfl rfl rfl ?_) | (go_at_call 38; refine (HZ.out _).mono ?_; rintro e w5 ⟨rfl, hb⟩; have HO : Hid (OwI w5 B2 (.slice va M.length vc) M) := HO.out.below hb (fun k hk => (HO.out.lt k hk).2); have HS : Hid (B2 ≤ w5.heap.size) := Nat.le_trans HS.out hb.size; have F0 : Hid (Blk w5 b0 [.int .i64 h.fl, .int .i64 h.gp, .int .i64 h.ln, .int .i64 h.rf, .int .i64 h.sp, .int .i64 h.pu, .int .i64 h.br, .int .i64 h.dr, .int .i64 h.lv, .int .i64 h.dO, .int .i64 h.ld, .int .i64 h.qu]) := F0.out.below hb F0.out.lt; have F1 : Hid (Blk w5 b1 [.int .i64 0, .slice none 0 0]) := F1.out.below hb F1.out.lt; have FB : Hid (Below w.heap.size w w5) := FB.out.trans (hb.mono FB.out.size); clear hb) | (go_at_call 39; refine (mask_any Z lm _).mono ?_; rintro e w6 ⟨rfl, hb⟩; have HO : Hid (OwI w6 B2 (.slice va M.length vc) M) := HO.out.below hb (fun k hk => (HO.out.lt k hk).2); have HS : Hid (B2 ≤ w6.heap.size) := Nat.le_trans HS.out hb.size; have F0 : Hid (Blk w6 b0 [.int .i64 h.fl, .int .i64 h.gp, .int .i64 h.ln, .int .i64 h.rf, .int .i64 h.sp, .int .i64 h.pu, .int .i64 h.br, .int .i64 h.dr, .int .i64 h.lv, .int .i64 h.dO, .int .i64 h.ld, .int .i64 h.qu]) := F0.out.below hb F0.out.lt; have F1 : Hid (Blk w6 b1 [.int .i64 0, .slice none 0 0]) := F1.out.below hb F1.out.lt; have FB : Hid (Below w.heap.size w w6) := FB.out.trans (hb.mono FB.out.size); clear hb) | (at_builtin; refine app_iG _ B2 _ M (Z : Int) _ _ rfl rfl rfl rfl HO.out (by omega) HS.out ?_; intro a' c' w7 ho2 hg))
      go_roundw
      case rel => exact ⟨k + 1, a', c', by rw [HE.out, List.length_append]; rfl, by simp, by omega, by rw [HE.out]; exact ho2, F0.out.grown hg (fun e => by have := (HO.out.lt b0 e.symm).1; omega), F1.out.grown hg (fun e => by have := (HO.out.lt b1 e.symm).1; omega), Nat.le_trans HS.out hg.size, FB.out.grown hg FB.out.size (fun j hj => Nat.le_trans lB2 (HO.out.lt j hj).1)⟩
      case measure => simp [intOf]; omega
    · have d : decide ((k : Int) < (c : Int)) = false := decide_eq_false (by omega)
      have e : k = c := by omega
      subst e
      have HO2 : Hid (OwI wr w.heap.size (.slice va (spP n q k).length vc) V) := by
        have z := HO.out.base lB2
        rw [HV.out] at z ⊢
        exact z
      have HOb : Hid (∀ j, (Value.slice va (spP n q k).length vc).ownBlock = some j → b1 < j) := fun j hj => Nat.lt_of_lt_of_le lB1 (HO.out.lt j hj).1
      rw [HV.out] at HO2 HOb ⊢
      clear HO HV
      have HO := HO2
      have HOV : Hid (OwI (wr.setRow b1 #[.int .i64 0, .slice va V.length vc]) w.heap.size (.slice va V.length vc) V) := OwI.kept (row := some b1) HO.out ⟨rfl, rfl, rfl, by simp, fun k _ hne => setRow_other _ b1 k _ (fun q => hne (by rw [q]))⟩ (Or.inr (fun c => by have := HOb.out b1 c; omega))
      go_wp2_with (refine store_blk [.int .i64 (0), .slice va V.length vc] 30 _ _ (by kernel_rfl) (by kernel_rfl) (by kernel_rfl) F1.out rfl rfl rfl rfl ?_)
      exact bodyPost_ret (v := .agg #[.int .i64 (0), .slice va V.length vc]) ((F1.out.row [.int .i64 (0), .slice va V.length vc]).res _ Try.results10 Try.underlying30 (by kernel_rfl) rfl) rfl ⟨⟨_, by rw [HK.out], HOV.out⟩, below_row FB.out leb1 _⟩
end Go.Proofs.Ytnpnlckdggakmaa
