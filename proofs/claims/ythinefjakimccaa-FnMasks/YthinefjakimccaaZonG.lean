/-
  Zones: MaskOf, FloorsOf, NearestIn, ZonesFault (the program).
-/
import Derived.Test.YthinefjakimccaaZonQ
import Derived.Test.YthinefjakimccaaZonE
import Derived.Test.YthinefjakimccaaHouseJ
import Derived.Test.YthinefjakimccaaHouseG
import Derived.BigGuardPart
namespace Go.Proofs.Ythinefjakimccaa
open Go.RowKit Pl
set_option linter.unusedSimpArgs false
set_option linter.unusedVariables false

theorem pow_flI {h : Hs} (f1 : 2 ≤ h.fl) (f2 : h.fl ≤ 12) : wrap64 (wrap64 (2 ^ h.fl.toNat) - 1) = 2 ^ h.fl.toNat - 1 := by
  have e : (2 : Int) ^ h.fl.toNat = ((2 ^ h.fl.toNat : Nat) : Int) := by simp
  have l : 2 ^ h.fl.toNat ≤ 2 ^ 12 := Nat.pow_le_pow_right (by decide) (by omega)
  rw [e]
  generalize 2 ^ h.fl.toNat = z at *
  unfold wrap64
  omega
set_option maxRecDepth 20000 in
set_option maxHeartbeats 16000000 in
theorem lowBits_fl (h : Hs) (f1 : 2 ≤ h.fl) (f2 : h.fl ≤ 12) (w : World) :
    Calls Try.prog 67 #[.int .i64 h.fl] w fun e w' => e = .returned (.int .i64 (2 ^ h.fl.toNat - 1)) ∧ w' = w := by
  have ep := pow_flI f1 f2
  go_enter Try.func67, Try.ntmps67
  go_wp2
  go_ret
  exact ⟨ret_int ep, rfl⟩
set_option maxRecDepth 20000 in
set_option maxHeartbeats 16000000 in
theorem isMask_any (h : Hs) (m : Int) (f1 : 2 ≤ h.fl) (f2 : h.fl ≤ 12) (w : World) :
    Calls Try.prog 39 #[.agg #[.int .i64 h.fl, .int .i64 h.gp, .int .i64 h.ln, .int .i64 h.rf, .int .i64 h.sp, .int .i64 h.pu, .int .i64 h.br, .int .i64 h.dr, .int .i64 h.lv, .int .i64 h.dO, .int .i64 h.ld, .int .i64 h.qu], .int .i64 m] w fun e w' => e = .returned (.bool (h.right m)) ∧ Below w.heap.size w w' := by
  have FB : Hid (Below w.heap.size w (w.alloc (.cells #[.int .i64 h.fl, .int .i64 h.gp, .int .i64 h.ln, .int .i64 h.rf, .int .i64 h.sp, .int .i64 h.pu, .int .i64 h.br, .int .i64 h.dr, .int .i64 h.lv, .int .i64 h.dO, .int .i64 h.ld, .int .i64 h.qu] 28))) := (Below.refl _ _).alloc (Nat.le_refl _) _
  go_enter Try.func39, Try.ntmps39
  go_wp2_with (first | (go_at_call 67; refine (lowBits_fl h f1 f2 _).mono ?_; rintro e w' ⟨rfl, hw⟩; obtain rfl := hw.symm; clear hw) | (go_at_call 50; refine (isWithin_any _ _ _ _).mono ?_; rintro e w' ⟨rfl, hw⟩; obtain rfl := hw.symm; clear hw))
  go_ret
  exact ⟨rfl, FB.out⟩
set_option maxRecDepth 20000 in
set_option maxHeartbeats 16000000 in
theorem implFloorsOf_any (h : Hs) (m : Int) (w : World) :
    Calls Try.prog 17 #[.agg #[.int .i64 h.fl, .int .i64 h.gp, .int .i64 h.ln, .int .i64 h.rf, .int .i64 h.sp, .int .i64 h.pu, .int .i64 h.br, .int .i64 h.dr, .int .i64 h.lv, .int .i64 h.dO, .int .i64 h.ld, .int .i64 h.qu], .int .i64 m] w fun e w' => (∃ v, e = .returned (.agg #[.int .i64 (h.flsK m), v]) ∧ OwI w' w.heap.size v (h.flsL m)) ∧ Below w.heap.size w w' := by
  obtain ⟨K, hK⟩ : ∃ K, h.flsK m = K := ⟨_, rfl⟩
  obtain ⟨V, hV⟩ : ∃ V, h.flsL m = V := ⟨_, rfl⟩
  rw [hK, hV]
  have HK0 : Hid (h.flsK m = K) := hK
  have HV0 : Hid (h.flsL m = V) := hV
  clear hK hV
  obtain ⟨b0, hb0⟩ : ∃ b0, b0 = w.heap.size := ⟨_, rfl⟩
  obtain ⟨b1, hb1⟩ : ∃ b1, b1 = b0 + 1 := ⟨_, rfl⟩
  obtain ⟨W0, hW0⟩ : ∃ W0, W0 = (w.alloc (.cells #[.int .i64 h.fl, .int .i64 h.gp, .int .i64 h.ln, .int .i64 h.rf, .int .i64 h.sp, .int .i64 h.pu, .int .i64 h.br, .int .i64 h.dr, .int .i64 h.lv, .int .i64 h.dO, .int .i64 h.ld, .int .i64 h.qu] 28)).alloc (.cells #[.int .i64 0, .slice none 0 0] 39) := ⟨_, rfl⟩
  have F0 : Hid (Blk W0 b0 [.int .i64 h.fl, .int .i64 h.gp, .int .i64 h.ln, .int .i64 h.rf, .int .i64 h.sp, .int .i64 h.pu, .int .i64 h.br, .int .i64 h.dr, .int .i64 h.lv, .int .i64 h.dO, .int .i64 h.ld, .int .i64 h.qu]) := by rw [hW0]; exact (Blk.at_ w #[.int .i64 h.fl, .int .i64 h.gp, .int .i64 h.ln, .int .i64 h.rf, .int .i64 h.sp, .int .i64 h.pu, .int .i64 h.br, .int .i64 h.dr, .int .i64 h.lv, .int .i64 h.dO, .int .i64 h.ld, .int .i64 h.qu] _ _ hb0).alloc _
  have F1 : Hid (Blk W0 b1 [.int .i64 0, .slice none 0 0]) := by rw [hW0]; exact Blk.at_ _ #[.int .i64 0, .slice none 0 0] _ _ (by simp; omega)
  have FB : Hid (Below w.heap.size w W0) := by rw [hW0]; exact ((Below.refl _ _).alloc (Nat.le_refl _) _).alloc (by simp) _
  have leb0 : w.heap.size ≤ b0 := by omega
  have leb1 : w.heap.size ≤ b1 := by omega
  have l01 : b0 < b1 := by omega
  obtain ⟨kf, hkf⟩ : ∃ kf, h.fault = kf := ⟨_, rfl⟩
  have HF : Hid (h.fault = kf) := hkf
  clear hkf
  go_enter Try.func17, Try.ntmps17
  go_upto_region 1 with fail
  rw [← hb0, ← hb1, ← hW0]
  clear hb0 hb1 hW0
  go_upto_region 2 with (first | (refine load_blk 28 _ Try.underlying28 (by kernel_rfl) F0.out rfl rfl rfl ?_) | (go_at_call 38; refine (implFault_any h _).mono ?_; rw [HF.out]; rintro e w1 ⟨rfl, hb⟩; have F0 : Hid (Blk w1 b0 [.int .i64 h.fl, .int .i64 h.gp, .int .i64 h.ln, .int .i64 h.rf, .int .i64 h.sp, .int .i64 h.pu, .int .i64 h.br, .int .i64 h.dr, .int .i64 h.lv, .int .i64 h.dO, .int .i64 h.ld, .int .i64 h.qu]) := F0.out.below hb F0.out.lt; have F1 : Hid (Blk w1 b1 [.int .i64 0, .slice none 0 0]) := F1.out.below hb F1.out.lt; have FB : Hid (Below w.heap.size w w1) := FB.out.trans (hb.mono FB.out.size); clear hb))
  by_cases hz : kf = 0
  case neg =>
    have hn : (kf != 0) = true := by simpa using hz
    have HK : Hid ((kf : Int) = K) := by show _ = K; rw [← HK0.out]; unfold Hs.flsK; rw [HF.out, if_neg hz]
    have HV : Hid ([] = V) := by show _ = V; rw [← HV0.out]; unfold Hs.flsL; rw [HK0.out, ← HK.out, if_neg (by first | assumption | decide)]
    go_wp2_with (first | (refine store_blk [.int .i64 (kf), .slice none 0 0] 39 _ _ (by kernel_rfl) (by kernel_rfl) (by kernel_rfl) F1.out rfl rfl rfl rfl ?_))
    exact bodyPost_ret (v := .agg #[.int .i64 (kf), .slice none 0 0]) ((F1.out.row [.int .i64 (kf), .slice none 0 0]).res _ Try.results17 Try.underlying39 (by kernel_rfl) rfl) rfl ⟨⟨_, by rw [HK.out], by rw [← HV.out]; exact owi_nil _ _⟩, below_row FB.out leb1 _⟩
  case pos =>
  subst hz
  obtain ⟨f1, f2⟩ := fl_of HF.out
  cases hR : h.right m
  · skip
    have HK : Hid ((3 : Int) = K) := by show _ = K; rw [← HK0.out]; unfold Hs.flsK; rw [HF.out, if_pos rfl, hR]; rfl
    have HV : Hid ([] = V) := by show _ = V; rw [← HV0.out]; unfold Hs.flsL; rw [HK0.out, ← HK.out, if_neg (by first | assumption | decide)]
    go_wp2_with (first | (refine load_blk 28 _ Try.underlying28 (by kernel_rfl) F0.out rfl rfl rfl ?_) | (go_at_call 39; refine (isMask_any h m f1 f2 _).mono ?_; rw [hR]; rintro e w2 ⟨rfl, hb⟩; have F0 : Hid (Blk w2 b0 [.int .i64 h.fl, .int .i64 h.gp, .int .i64 h.ln, .int .i64 h.rf, .int .i64 h.sp, .int .i64 h.pu, .int .i64 h.br, .int .i64 h.dr, .int .i64 h.lv, .int .i64 h.dO, .int .i64 h.ld, .int .i64 h.qu]) := F0.out.below hb F0.out.lt; have F1 : Hid (Blk w2 b1 [.int .i64 0, .slice none 0 0]) := F1.out.below hb F1.out.lt; have FB : Hid (Below w.heap.size w w2) := FB.out.trans (hb.mono FB.out.size); clear hb) | (refine store_blk [.int .i64 (3), .slice none 0 0] 39 _ _ (by kernel_rfl) (by kernel_rfl) (by kernel_rfl) F1.out rfl rfl rfl rfl ?_))
    exact bodyPost_ret (v := .agg #[.int .i64 (3), .slice none 0 0]) ((F1.out.row [.int .i64 (3), .slice none 0 0]).res _ Try.results17 Try.underlying39 (by kernel_rfl) rfl) rfl ⟨⟨_, by rw [HK.out], by rw [← HV.out]; exact owi_nil _ _⟩, below_row FB.out leb1 _⟩
  · obtain ⟨M, rfl, hM1, hM2⟩ := right_nat f2 hR
    have HK : Hid ((0 : Int) = K) := by show _ = K; rw [← HK0.out]; unfold Hs.flsK; rw [HF.out, if_pos rfl, hR]; rfl
    have HV : Hid (fls 12 M = V) := by show _ = V; rw [← HV0.out]; unfold Hs.flsL; rw [HK0.out, ← HK.out, if_pos rfl, Int.toNat_natCast]
    go_upto_region 5 with (first | (refine load_blk 28 _ Try.underlying28 (by kernel_rfl) F0.out rfl rfl rfl ?_) | (go_at_call 39; refine (isMask_any h _ f1 f2 _).mono ?_; rw [hR]; rintro e w2 ⟨rfl, hb⟩; have F0 : Hid (Blk w2 b0 [.int .i64 h.fl, .int .i64 h.gp, .int .i64 h.ln, .int .i64 h.rf, .int .i64 h.sp, .int .i64 h.pu, .int .i64 h.br, .int .i64 h.dr, .int .i64 h.lv, .int .i64 h.dO, .int .i64 h.ld, .int .i64 h.qu]) := F0.out.below hb F0.out.lt; have F1 : Hid (Blk w2 b1 [.int .i64 0, .slice none 0 0]) := F1.out.below hb F1.out.lt; have FB : Hid (Below w.heap.size w w2) := FB.out.trans (hb.mono FB.out.size); clear hb))
    go_upto_region 6 with fail
    go_wp2_with (first | (go_at_call 41; refine (setOf_any M hM2 _).mono ?_; rintro e w4 ⟨rfl, hb⟩; have F0 : Hid (Blk w4 b0 [.int .i64 h.fl, .int .i64 h.gp, .int .i64 h.ln, .int .i64 h.rf, .int .i64 h.sp, .int .i64 h.pu, .int .i64 h.br, .int .i64 h.dr, .int .i64 h.lv, .int .i64 h.dO, .int .i64 h.ld, .int .i64 h.qu]) := F0.out.below hb F0.out.lt; have F1 : Hid (Blk w4 b1 [.int .i64 0, .slice none 0 0]) := F1.out.below hb F1.out.lt; have FB : Hid (Below w.heap.size w w4) := FB.out.trans (hb.mono FB.out.size); clear hb) | (go_at_call 42; refine (floors_any M _).mono ?_; rintro e w5 ⟨rfl, hw0⟩; have FS : Hid (Blk w5 w4.heap.size (bvs M)) := (by rw [hw0]; exact Blk.at_ _ (bvs M).toArray _ _ rfl); have hb : Below w4.heap.size w4 w5 := (by rw [hw0]; exact (Below.refl _ _).alloc (Nat.le_refl _) _); clear hw0; have F0 : Hid (Blk w5 b0 [.int .i64 h.fl, .int .i64 h.gp, .int .i64 h.ln, .int .i64 h.rf, .int .i64 h.sp, .int .i64 h.pu, .int .i64 h.br, .int .i64 h.dr, .int .i64 h.lv, .int .i64 h.dO, .int .i64 h.ld, .int .i64 h.qu]) := F0.out.below hb F0.out.lt; have F1 : Hid (Blk w5 b1 [.int .i64 0, .slice none 0 0]) := F1.out.below hb F1.out.lt; have FB : Hid (Below w.heap.size w w5) := FB.out.trans (hb.mono FB.out.size); clear hb) | (go_at_call 40; refine (collect_any _ M _ FS.out).mono ?_; rw [HV.out]; rintro e w3 ⟨v, rfl, ho, hb⟩; have HO : Hid (OwI w3 w.heap.size v V) := ho.base FB.out.size; have HOb : Hid (∀ k, v.ownBlock = some k → b1 < k) := (fun k hk => Nat.lt_of_lt_of_le F1.out.lt (ho.lt k hk).1); have F0 : Hid (Blk w3 b0 [.int .i64 h.fl, .int .i64 h.gp, .int .i64 h.ln, .int .i64 h.rf, .int .i64 h.sp, .int .i64 h.pu, .int .i64 h.br, .int .i64 h.dr, .int .i64 h.lv, .int .i64 h.dO, .int .i64 h.ld, .int .i64 h.qu]) := F0.out.below hb F0.out.lt; have F1 : Hid (Blk w3 b1 [.int .i64 0, .slice none 0 0]) := F1.out.below hb F1.out.lt; have FB : Hid (Below w.heap.size w w3) := FB.out.trans (hb.mono FB.out.size); clear hb; clear ho; obtain ⟨va, vc, rfl⟩ := HO.out.sl; have HOV : Hid (OwI (w3.setRow b1 #[.int .i64 0, .slice va V.length vc]) w.heap.size (.slice va V.length vc) V) := (OwI.kept (row := some b1) HO.out ⟨rfl, rfl, rfl, by simp, fun k _ hne => setRow_other _ b1 k _ (fun q => hne (by rw [q]))⟩ (Or.inr (fun c => by have := HOb.out b1 c; omega)))) | (refine store_blk [.int .i64 (0), .slice va V.length vc] 39 _ _ (by kernel_rfl) (by kernel_rfl) (by kernel_rfl) F1.out rfl rfl rfl rfl ?_))
    exact bodyPost_ret (v := .agg #[.int .i64 (0), .slice va V.length vc]) ((F1.out.row [.int .i64 (0), .slice va V.length vc]).res _ Try.results17 Try.underlying39 (by kernel_rfl) rfl) rfl ⟨⟨_, by rw [HK.out], HOV.out⟩, below_row FB.out leb1 _⟩
set_option maxRecDepth 20000 in
set_option maxHeartbeats 16000000 in
theorem implMask_any (h : Hs) (l : List Int) (a : Option Addr) (cap : Nat) (hl : l.length ≤ 1048576) (w : World) (hI : IIn w a l) :
    Calls Try.prog 19 #[.agg #[.int .i64 h.fl, .int .i64 h.gp, .int .i64 h.ln, .int .i64 h.rf, .int .i64 h.sp, .int .i64 h.pu, .int .i64 h.br, .int .i64 h.dr, .int .i64 h.lv, .int .i64 h.dO, .int .i64 h.ld, .int .i64 h.qu], .slice a l.length cap] w fun e w' => e = .returned (.agg #[.int .i64 (h.mskK l), .int .i64 (h.mskV l)]) ∧ Below w.heap.size w w' := by
  have HI : Hid (IIn w a l) := hI
  clear hI
  obtain ⟨K, hK⟩ : ∃ K, h.mskK l = K := ⟨_, rfl⟩
  obtain ⟨V, hV⟩ : ∃ V, h.mskV l = V := ⟨_, rfl⟩
  rw [hK, hV]
  have HK0 : Hid (h.mskK l = K) := hK
  have HV0 : Hid (h.mskV l = V) := hV
  clear hK hV
  obtain ⟨b0, hb0⟩ : ∃ b0, b0 = w.heap.size := ⟨_, rfl⟩
  obtain ⟨b1, hb1⟩ : ∃ b1, b1 = b0 + 1 := ⟨_, rfl⟩
  obtain ⟨W0, hW0⟩ : ∃ W0, W0 = (w.alloc (.cells #[.int .i64 h.fl, .int .i64 h.gp, .int .i64 h.ln, .int .i64 h.rf, .int .i64 h.sp, .int .i64 h.pu, .int .i64 h.br, .int .i64 h.dr, .int .i64 h.lv, .int .i64 h.dO, .int .i64 h.ld, .int .i64 h.qu] 28)).alloc (.cells #[.int .i64 0, .int .i64 0] 26) := ⟨_, rfl⟩
  have F0 : Hid (Blk W0 b0 [.int .i64 h.fl, .int .i64 h.gp, .int .i64 h.ln, .int .i64 h.rf, .int .i64 h.sp, .int .i64 h.pu, .int .i64 h.br, .int .i64 h.dr, .int .i64 h.lv, .int .i64 h.dO, .int .i64 h.ld, .int .i64 h.qu]) := by rw [hW0]; exact (Blk.at_ w #[.int .i64 h.fl, .int .i64 h.gp, .int .i64 h.ln, .int .i64 h.rf, .int .i64 h.sp, .int .i64 h.pu, .int .i64 h.br, .int .i64 h.dr, .int .i64 h.lv, .int .i64 h.dO, .int .i64 h.ld, .int .i64 h.qu] _ _ hb0).alloc _
  have F1 : Hid (Blk W0 b1 [.int .i64 0, .int .i64 0]) := by rw [hW0]; exact Blk.at_ _ #[.int .i64 0, .int .i64 0] _ _ (by simp; omega)
  have FB : Hid (Below w.heap.size w W0) := by rw [hW0]; exact ((Below.refl _ _).alloc (Nat.le_refl _) _).alloc (by simp) _
  have leb0 : w.heap.size ≤ b0 := by omega
  have leb1 : w.heap.size ≤ b1 := by omega
  have l01 : b0 < b1 := by omega
  obtain ⟨kf, hkf⟩ : ∃ kf, h.fault = kf := ⟨_, rfl⟩
  have HF : Hid (h.fault = kf) := hkf
  clear hkf
  go_enter Try.func19, Try.ntmps19
  go_upto_region 1 with fail
  rw [← hb0, ← hb1, ← hW0]
  clear hb0 hb1 hW0
  go_upto_region 2 with (first | (refine load_blk 28 _ Try.underlying28 (by kernel_rfl) F0.out rfl rfl rfl ?_) | (go_at_call 38; refine (implFault_any h _).mono ?_; rw [HF.out]; rintro e w1 ⟨rfl, hb⟩; have F0 : Hid (Blk w1 b0 [.int .i64 h.fl, .int .i64 h.gp, .int .i64 h.ln, .int .i64 h.rf, .int .i64 h.sp, .int .i64 h.pu, .int .i64 h.br, .int .i64 h.dr, .int .i64 h.lv, .int .i64 h.dO, .int .i64 h.ld, .int .i64 h.qu]) := F0.out.below hb F0.out.lt; have F1 : Hid (Blk w1 b1 [.int .i64 0, .int .i64 0]) := F1.out.below hb F1.out.lt; have FB : Hid (Below w.heap.size w w1) := FB.out.trans (hb.mono FB.out.size); clear hb))
  by_cases hz : kf = 0
  case neg =>
    have hn : (kf != 0) = true := by simpa using hz
    have HK : Hid ((kf : Int) = K) := by show _ = K; rw [← HK0.out]; unfold Hs.mskK; rw [HF.out, if_neg hz]
    have HV : Hid ((0 : Int) = V) := by show _ = V; rw [← HV0.out]; unfold Hs.mskV; rw [HK0.out, ← HK.out, if_neg (by first | assumption | decide)]
    go_wp2_with (refine store_blk [.int .i64 (kf), .int .i64 (0)] 26 _ _ (by kernel_rfl) (by kernel_rfl) (by kernel_rfl) F1.out rfl rfl rfl rfl ?_)
    exact bodyPost_ret (v := .agg #[.int .i64 (kf), .int .i64 (0)]) ((F1.out.row [.int .i64 (kf), .int .i64 (0)]).res _ Try.results19 Try.underlying26 (by kernel_rfl) rfl) rfl ⟨ret_pr HK.out HV.out, below_row FB.out leb1 _⟩
  case pos =>
  subst hz
  obtain ⟨f1, f2⟩ := fl_of HF.out
  by_cases h40 : 40 < l.length
  case pos =>
    have d : decide ((40 : Int) < (l.length : Int)) = true := decide_eq_true (by omega)
    have HK : Hid ((2 : Int) = K) := by show _ = K; rw [← HK0.out]; unfold Hs.mskK; rw [HF.out, if_pos rfl, if_pos h40]
    have HV : Hid ((0 : Int) = V) := by show _ = V; rw [← HV0.out]; unfold Hs.mskV; rw [HK0.out, ← HK.out, if_neg (by first | assumption | decide)]
    go_wp2_with (refine store_blk [.int .i64 (2), .int .i64 (0)] 26 _ _ (by kernel_rfl) (by kernel_rfl) (by kernel_rfl) F1.out rfl rfl rfl rfl ?_)
    exact bodyPost_ret (v := .agg #[.int .i64 (2), .int .i64 (0)]) ((F1.out.row [.int .i64 (2), .int .i64 (0)]).res _ Try.results19 Try.underlying26 (by kernel_rfl) rfl) rfl ⟨ret_pr HK.out HV.out, below_row FB.out leb1 _⟩
  case neg =>
  have d : decide ((40 : Int) < (l.length : Int)) = false := decide_eq_false (by omega)
  go_upto_region 7 with fail
  obtain ⟨b2, hb2⟩ : ∃ b2, b2 = w1.heap.size := ⟨_, rfl⟩
  obtain ⟨w2, hw2⟩ : ∃ w2, w2 = w1.alloc (.cells #[.int .u8 0, .int .u8 0, .int .u8 0, .int .u8 0, .int .u8 0, .int .u8 0, .int .u8 0, .int .u8 0, .int .u8 0, .int .u8 0, .int .u8 0, .int .u8 0] 53) := ⟨_, rfl⟩
  have l12 : b1 < b2 := by rw [hb2]; exact F1.out.lt
  have leb2 : w.heap.size ≤ b2 := by omega
  have F2 : Hid (Blk w2 b2 (bvs 0)) := by rw [hw2, ← zero_bvs]; exact Blk.at_ w1 #[.int .u8 0, .int .u8 0, .int .u8 0, .int .u8 0, .int .u8 0, .int .u8 0, .int .u8 0, .int .u8 0, .int .u8 0, .int .u8 0, .int .u8 0, .int .u8 0] _ _ hb2
  have F0 : Hid (Blk w2 b0 [.int .i64 h.fl, .int .i64 h.gp, .int .i64 h.ln, .int .i64 h.rf, .int .i64 h.sp, .int .i64 h.pu, .int .i64 h.br, .int .i64 h.dr, .int .i64 h.lv, .int .i64 h.dO, .int .i64 h.ld, .int .i64 h.qu]) := by rw [hw2]; exact F0.out.alloc _
  have F1 : Hid (Blk w2 b1 [.int .i64 0, .int .i64 0]) := by rw [hw2]; exact F1.out.alloc _
  have FB : Hid (Below w.heap.size w w2) := by rw [hw2]; exact FB.out.alloc FB.out.size _
  (try simp only [Act.put])
  rw [← hw2, ← hb2]
  clear d hw2 hb2
  go_wp2_with fail
  go_loopw [21] (fun ii wr => ∃ i : Nat, ii = .int .i64 (i : Int) ∧ i ≤ l.length ∧ h.allF (l.take i) = true ∧ Blk wr b0 [.int .i64 h.fl, .int .i64 h.gp, .int .i64 h.ln, .int .i64 h.rf, .int .i64 h.sp, .int .i64 h.pu, .int .i64 h.br, .int .i64 h.dr, .int .i64 h.lv, .int .i64 h.dO, .int .i64 h.ld, .int .i64 h.qu] ∧ Blk wr b1 [.int .i64 0, .int .i64 0] ∧ Blk wr b2 (bvs (maskN (l.take i))) ∧ Below w.heap.size w wr) (fun ii _ => l.length - (intOf ii).toNat)
  case atStart => exact ⟨0, rfl, by omega, rfl, F0.out, F1.out, F2.out, FB.out⟩
  case round =>
    obtain ⟨i, rfl, hi, ha, hf0, hf1, hf2, hb⟩ := hrel
    have F0 : Hid (Blk wr b0 [.int .i64 h.fl, .int .i64 h.gp, .int .i64 h.ln, .int .i64 h.rf, .int .i64 h.sp, .int .i64 h.pu, .int .i64 h.br, .int .i64 h.dr, .int .i64 h.lv, .int .i64 h.dO, .int .i64 h.ld, .int .i64 h.qu]) := hf0
    have F1 : Hid (Blk wr b1 [.int .i64 0, .int .i64 0]) := hf1
    have F2 : Hid (Blk wr b2 (bvs (maskN (l.take i)))) := hf2
    have FB : Hid (Below w.heap.size w wr) := hb
    have lm : maskN (l.take i) < 4096 := Nat.lt_of_lt_of_le (maskN_lt (allF_bd ha)) (by have := Nat.pow_le_pow_right (show 0 < 2 by decide) (show h.fl.toNat ≤ 12 by omega); omega)
    have HA : Hid (h.allF (l.take i) = true) := ha
    clear hf0 hf1 hf2 hb ha
    by_cases hlt : i < l.length
    · obtain ⟨x, hx⟩ : ∃ x, l[i]? = some x := ⟨_, List.getElem?_eq_getElem hlt⟩
      have HX : Hid (l[i]? = some x) := hx
      rcases HI.out with h0 | ⟨g, rfl, hg, hc⟩
      · rw [h0] at hlt; simp at hlt
      have c0 := (FB.out.cell (p := ⟨g, i, none⟩) hg).trans (hc i x hx)
      clear hx hc
      cases hC : inB x 0 (h.fl - 1)
      · have hFl := allF_no (h := h) HX.out hC
        have HK : Hid ((3 : Int) = K) := by show _ = K; rw [← HK0.out]; unfold Hs.mskK; rw [HF.out, if_pos rfl, if_neg h40, hFl]; rfl
        have HV : Hid ((0 : Int) = V) := by show _ = V; rw [← HV0.out]; unfold Hs.mskV; rw [HK0.out, ← HK.out]; rfl
        go_wp2_with (first | (refine load_blk 28 _ Try.underlying28 (by kernel_rfl) F0.out rfl rfl rfl ?_) | (go_at_call 46; refine (isFloor_any h x f1 f2 _).mono ?_; rw [hC]; rintro e w5 ⟨rfl, hb⟩; have F0 : Hid (Blk w5 b0 [.int .i64 h.fl, .int .i64 h.gp, .int .i64 h.ln, .int .i64 h.rf, .int .i64 h.sp, .int .i64 h.pu, .int .i64 h.br, .int .i64 h.dr, .int .i64 h.lv, .int .i64 h.dO, .int .i64 h.ld, .int .i64 h.qu]) := F0.out.below hb F0.out.lt; have F1 : Hid (Blk w5 b1 [.int .i64 0, .int .i64 0]) := F1.out.below hb F1.out.lt; have FB : Hid (Below w.heap.size w w5) := FB.out.trans (hb.mono FB.out.size); clear hb) | (refine store_blk [.int .i64 (3), .int .i64 (0)] 26 _ _ (by kernel_rfl) (by kernel_rfl) (by kernel_rfl) F1.out rfl rfl rfl rfl ?_))
        exact bodyPost_ret (v := .agg #[.int .i64 (3), .int .i64 (0)]) ((F1.out.row [.int .i64 (3), .int .i64 (0)]).res _ Try.results19 Try.underlying26 (by kernel_rfl) rfl) rfl ⟨ret_pr HK.out HV.out, below_row FB.out leb1 _⟩
      · have HT : Hid (h.allF (l.take (i + 1)) = true) := by show _ = true; rw [allF_take HX.out, HA.out, hC]; rfl
        obtain ⟨x1, x2⟩ := inB_iff.1 hC
        obtain ⟨q, rfl⟩ : ∃ q : Nat, x = (q : Int) := ⟨x.toNat, by omega⟩
        have hq : q < 12 := by omega
        have HM : Hid (maskN (l.take (i + 1)) = maskN (l.take i) ||| 2 ^ q) := by show _ = _; rw [maskN_take HX.out, Int.toNat_natCast]
        obtain ⟨M, hM⟩ : ∃ M, maskN (l.take i) = M := ⟨_, rfl⟩
        rw [hM] at HM lm F2
        clear hM
        go_upto_region 12 with (first | (refine load_blk 28 _ Try.underlying28 (by kernel_rfl) F0.out rfl rfl rfl ?_) | (go_at_call 46; refine (isFloor_any h _ f1 f2 _).mono ?_; rw [hC]; rintro e w5 ⟨rfl, hb⟩; have F2 : Hid (Blk w5 b2 (bvs M)) := F2.out.below hb F2.out.lt; have F0 : Hid (Blk w5 b0 [.int .i64 h.fl, .int .i64 h.gp, .int .i64 h.ln, .int .i64 h.rf, .int .i64 h.sp, .int .i64 h.pu, .int .i64 h.br, .int .i64 h.dr, .int .i64 h.lv, .int .i64 h.dO, .int .i64 h.ld, .int .i64 h.qu]) := F0.out.below hb F0.out.lt; have F1 : Hid (Blk w5 b1 [.int .i64 0, .int .i64 0]) := F1.out.below hb F1.out.lt; have FB : Hid (Below w.heap.size w w5) := FB.out.trans (hb.mono FB.out.size); clear hb))
        have c2 := F2.out.c q _ (bvs_get hq)
        have k2 := F2.out.f q (by rw [bvs_len]; exact hq)
        have H2 : Hid (Blk (w5.setCell ⟨b2, q, none⟩ (.int .u8 1)) b2 (bvs (M ||| 2 ^ q))) := by
          have z := F2.out.set (k := q) (.int .u8 1) (by rw [bvs_len]; exact hq)
          rw [bvs_set hq] at z
          exact z
        go_wp2_with fail
        go_roundw
        case rel => exact ⟨i + 1, by simp, by omega, HT.out, F0.out.other (by omega), F1.out.other (by omega), by rw [HM.out]; exact H2.out, FB.out.setCell leb2 _⟩
        case measure => simp [intOf]; omega
    · have e : i = l.length := by omega
      subst e
      have HT : Hid (h.allF l = true) := by show _ = true; rw [← HA.out, List.take_length]
      have HM : Hid (((maskN l : Nat) : Int) = V) := by show _ = V; rw [← HV0.out]; unfold Hs.mskV Hs.mskK; rw [HF.out, if_pos rfl, if_neg h40, HT.out]; rfl
      have HK : Hid ((0 : Int) = K) := by show _ = K; rw [← HK0.out]; unfold Hs.mskK; rw [HF.out, if_pos rfl, if_neg h40, HT.out]; rfl
      rw [List.take_length] at F2 lm
      clear HA
      obtain ⟨M, hM⟩ : ∃ M : Nat, maskN l = M := ⟨_, rfl⟩
      rw [hM] at HM lm F2
      clear hM
      go_wp2_with (first | (refine load_arr 53 _ undFS (bvs_info M) F2.out rfl rfl rfl ?_) | (go_at_call 32; refine (mask_any M lm _).mono ?_; rintro e w6 ⟨rfl, hb⟩; have F0 : Hid (Blk w6 b0 [.int .i64 h.fl, .int .i64 h.gp, .int .i64 h.ln, .int .i64 h.rf, .int .i64 h.sp, .int .i64 h.pu, .int .i64 h.br, .int .i64 h.dr, .int .i64 h.lv, .int .i64 h.dO, .int .i64 h.ld, .int .i64 h.qu]) := F0.out.below hb F0.out.lt; have F1 : Hid (Blk w6 b1 [.int .i64 0, .int .i64 0]) := F1.out.below hb F1.out.lt; have FB : Hid (Below w.heap.size w w6) := FB.out.trans (hb.mono FB.out.size); clear hb) | (refine store_blk [.int .i64 (0), .int .i64 ((M : Int))] 26 _ _ (by kernel_rfl) (by kernel_rfl) (by kernel_rfl) F1.out rfl rfl rfl rfl ?_))
      exact bodyPost_ret (v := .agg #[.int .i64 (0), .int .i64 ((M : Int))]) ((F1.out.row [.int .i64 (0), .int .i64 ((M : Int))]).res _ Try.results19 Try.underlying26 (by kernel_rfl) rfl) rfl ⟨ret_pr HK.out HM.out, below_row FB.out leb1 _⟩
set_option maxRecDepth 20000 in
set_option maxHeartbeats 16000000 in
theorem implNearest_any (h : Hs) (m f : Int) (w : World) :
    Calls Try.prog 20 #[.agg #[.int .i64 h.fl, .int .i64 h.gp, .int .i64 h.ln, .int .i64 h.rf, .int .i64 h.sp, .int .i64 h.pu, .int .i64 h.br, .int .i64 h.dr, .int .i64 h.lv, .int .i64 h.dO, .int .i64 h.ld, .int .i64 h.qu], .int .i64 m, .int .i64 f] w fun e w' => e = .returned (.agg #[.int .i64 (h.nrK m f), .int .i64 (h.nrV m f)]) ∧ Below w.heap.size w w' := by
  obtain ⟨K, hK⟩ : ∃ K, h.nrK m f = K := ⟨_, rfl⟩
  obtain ⟨V, hV⟩ : ∃ V, h.nrV m f = V := ⟨_, rfl⟩
  rw [hK, hV]
  have HK0 : Hid (h.nrK m f = K) := hK
  have HV0 : Hid (h.nrV m f = V) := hV
  clear hK hV
  obtain ⟨b0, hb0⟩ : ∃ b0, b0 = w.heap.size := ⟨_, rfl⟩
  obtain ⟨b1, hb1⟩ : ∃ b1, b1 = b0 + 1 := ⟨_, rfl⟩
  obtain ⟨W0, hW0⟩ : ∃ W0, W0 = (w.alloc (.cells #[.int .i64 h.fl, .int .i64 h.gp, .int .i64 h.ln, .int .i64 h.rf, .int .i64 h.sp, .int .i64 h.pu, .int .i64 h.br, .int .i64 h.dr, .int .i64 h.lv, .int .i64 h.dO, .int .i64 h.ld, .int .i64 h.qu] 28)).alloc (.cells #[.int .i64 0, .int .i64 0] 42) := ⟨_, rfl⟩
  have F0 : Hid (Blk W0 b0 [.int .i64 h.fl, .int .i64 h.gp, .int .i64 h.ln, .int .i64 h.rf, .int .i64 h.sp, .int .i64 h.pu, .int .i64 h.br, .int .i64 h.dr, .int .i64 h.lv, .int .i64 h.dO, .int .i64 h.ld, .int .i64 h.qu]) := by rw [hW0]; exact (Blk.at_ w #[.int .i64 h.fl, .int .i64 h.gp, .int .i64 h.ln, .int .i64 h.rf, .int .i64 h.sp, .int .i64 h.pu, .int .i64 h.br, .int .i64 h.dr, .int .i64 h.lv, .int .i64 h.dO, .int .i64 h.ld, .int .i64 h.qu] _ _ hb0).alloc _
  have F1 : Hid (Blk W0 b1 [.int .i64 0, .int .i64 0]) := by rw [hW0]; exact Blk.at_ _ #[.int .i64 0, .int .i64 0] _ _ (by simp; omega)
  have FB : Hid (Below w.heap.size w W0) := by rw [hW0]; exact ((Below.refl _ _).alloc (Nat.le_refl _) _).alloc (by simp) _
  have leb0 : w.heap.size ≤ b0 := by omega
  have leb1 : w.heap.size ≤ b1 := by omega
  have l01 : b0 < b1 := by omega
  obtain ⟨kf, hkf⟩ : ∃ kf, h.fault = kf := ⟨_, rfl⟩
  have HF : Hid (h.fault = kf) := hkf
  clear hkf
  go_enter Try.func20, Try.ntmps20
  go_upto_region 1 with fail
  rw [← hb0, ← hb1, ← hW0]
  clear hb0 hb1 hW0
  go_upto_region 2 with (first | (refine load_blk 28 _ Try.underlying28 (by kernel_rfl) F0.out rfl rfl rfl ?_) | (go_at_call 38; refine (implFault_any h _).mono ?_; rw [HF.out]; rintro e w1 ⟨rfl, hb⟩; have F0 : Hid (Blk w1 b0 [.int .i64 h.fl, .int .i64 h.gp, .int .i64 h.ln, .int .i64 h.rf, .int .i64 h.sp, .int .i64 h.pu, .int .i64 h.br, .int .i64 h.dr, .int .i64 h.lv, .int .i64 h.dO, .int .i64 h.ld, .int .i64 h.qu]) := F0.out.below hb F0.out.lt; have F1 : Hid (Blk w1 b1 [.int .i64 0, .int .i64 0]) := F1.out.below hb F1.out.lt; have FB : Hid (Below w.heap.size w w1) := FB.out.trans (hb.mono FB.out.size); clear hb))
  by_cases hz : kf = 0
  case neg =>
    have hn : (kf != 0) = true := by simpa using hz
    have HK : Hid ((kf : Int) = K) := by show _ = K; rw [← HK0.out]; unfold Hs.nrK; rw [HF.out, if_neg hz]
    have HV : Hid ((0 : Int) = V) := by show _ = V; rw [← HV0.out]; unfold Hs.nrV; rw [HK0.out, ← HK.out, if_neg (by first | assumption | decide)]
    go_wp2_with (refine store_blk [.int .i64 (kf), .int .i64 (0)] 42 _ _ (by kernel_rfl) (by kernel_rfl) (by kernel_rfl) F1.out rfl rfl rfl rfl ?_)
    exact bodyPost_ret (v := .agg #[.int .i64 (kf), .int .i64 (0)]) ((F1.out.row [.int .i64 (kf), .int .i64 (0)]).res _ Try.results20 Try.underlying42 (by kernel_rfl) rfl) rfl ⟨ret_pr HK.out HV.out, below_row FB.out leb1 _⟩
  case pos =>
  subst hz
  obtain ⟨f1, f2⟩ := fl_of HF.out
  have ef : IntKind.i64.wrap (h.fl - 1) = h.fl - 1 := IntWalk.i64_in _ (by omega)
  have ef2 : wrap64 (h.fl - 1) = h.fl - 1 := by unfold wrap64; omega
  cases hR : h.right m
  · skip
    have HK : Hid ((3 : Int) = K) := by show _ = K; rw [← HK0.out]; unfold Hs.nrK; rw [HF.out, if_pos rfl, hR, if_neg (by simp)]
    have HV : Hid ((0 : Int) = V) := by show _ = V; rw [← HV0.out]; unfold Hs.nrV; rw [HK0.out, ← HK.out, if_neg (by first | assumption | decide)]
    go_wp2_with (first | (refine load_blk 28 _ Try.underlying28 (by kernel_rfl) F0.out rfl rfl rfl ?_) | (go_at_call 39; refine (isMask_any h m f1 f2 _).mono ?_; rw [hR]; rintro e w2 ⟨rfl, hb⟩; have F0 : Hid (Blk w2 b0 [.int .i64 h.fl, .int .i64 h.gp, .int .i64 h.ln, .int .i64 h.rf, .int .i64 h.sp, .int .i64 h.pu, .int .i64 h.br, .int .i64 h.dr, .int .i64 h.lv, .int .i64 h.dO, .int .i64 h.ld, .int .i64 h.qu]) := F0.out.below hb F0.out.lt; have F1 : Hid (Blk w2 b1 [.int .i64 0, .int .i64 0]) := F1.out.below hb F1.out.lt; have FB : Hid (Below w.heap.size w w2) := FB.out.trans (hb.mono FB.out.size); clear hb) | (refine store_blk [.int .i64 (3), .int .i64 (0)] 42 _ _ (by kernel_rfl) (by kernel_rfl) (by kernel_rfl) F1.out rfl rfl rfl rfl ?_))
    exact bodyPost_ret (v := .agg #[.int .i64 (3), .int .i64 (0)]) ((F1.out.row [.int .i64 (3), .int .i64 (0)]).res _ Try.results20 Try.underlying42 (by kernel_rfl) rfl) rfl ⟨ret_pr HK.out HV.out, below_row FB.out leb1 _⟩
  cases hC : inB f 0 (h.fl - 1)
  · skip
    have HK : Hid ((3 : Int) = K) := by show _ = K; rw [← HK0.out]; unfold Hs.nrK; rw [HF.out, if_pos rfl, hR, hC, if_neg (by simp)]
    have HV : Hid ((0 : Int) = V) := by show _ = V; rw [← HV0.out]; unfold Hs.nrV; rw [HK0.out, ← HK.out, if_neg (by first | assumption | decide)]
    go_wp2_with (first | (refine load_blk 28 _ Try.underlying28 (by kernel_rfl) F0.out rfl rfl rfl ?_) | (go_at_call 39; refine (isMask_any h m f1 f2 _).mono ?_; rw [hR]; rintro e w2 ⟨rfl, hb⟩; have F0 : Hid (Blk w2 b0 [.int .i64 h.fl, .int .i64 h.gp, .int .i64 h.ln, .int .i64 h.rf, .int .i64 h.sp, .int .i64 h.pu, .int .i64 h.br, .int .i64 h.dr, .int .i64 h.lv, .int .i64 h.dO, .int .i64 h.ld, .int .i64 h.qu]) := F0.out.below hb F0.out.lt; have F1 : Hid (Blk w2 b1 [.int .i64 0, .int .i64 0]) := F1.out.below hb F1.out.lt; have FB : Hid (Below w.heap.size w w2) := FB.out.trans (hb.mono FB.out.size); clear hb; have z0 := F0.out.c 0 _ rfl) | (refine load_blkgd 28 _ Try.underlying28 (by kernel_rfl) F0.out (by kernel_rfl) rfl rfl ?_) | (go_at_call 46; refine (isFloor_any h _ f1 f2 _).mono ?_; rw [hC]; rintro e w3 ⟨rfl, hb⟩; have F0 : Hid (Blk w3 b0 [.int .i64 h.fl, .int .i64 h.gp, .int .i64 h.ln, .int .i64 h.rf, .int .i64 h.sp, .int .i64 h.pu, .int .i64 h.br, .int .i64 h.dr, .int .i64 h.lv, .int .i64 h.dO, .int .i64 h.ld, .int .i64 h.qu]) := F0.out.below hb F0.out.lt; have F1 : Hid (Blk w3 b1 [.int .i64 0, .int .i64 0]) := F1.out.below hb F1.out.lt; have FB : Hid (Below w.heap.size w w3) := FB.out.trans (hb.mono FB.out.size); clear hb) | (refine store_blk [.int .i64 (3), .int .i64 (0)] 42 _ _ (by kernel_rfl) (by kernel_rfl) (by kernel_rfl) F1.out rfl rfl rfl rfl ?_))
    exact bodyPost_ret (v := .agg #[.int .i64 (3), .int .i64 (0)]) ((F1.out.row [.int .i64 (3), .int .i64 (0)]).res _ Try.results20 Try.underlying42 (by kernel_rfl) rfl) rfl ⟨ret_pr HK.out HV.out, below_row FB.out leb1 _⟩
  obtain ⟨M, rfl, hM1, hM2⟩ := right_nat f2 hR
  obtain ⟨x1, x2⟩ := inB_iff.1 hC
  have HK0' : Hid (K = if M = 0 then 4 else 0) := by
    show K = _
    rw [← HK0.out]
    unfold Hs.nrK
    rw [HF.out, if_pos rfl, if_pos ⟨hR, hC⟩]
    by_cases c : M = 0
    · subst c; rfl
    · rw [if_neg (by omega), if_neg c]
  by_cases h0 : M = 0
  case pos =>
    have dz : ((M : Int) == 0) = true := by simp; omega
    have HK : Hid ((4 : Int) = K) := by show _ = K; rw [HK0'.out, if_pos h0]
    have H0 : Hid (M = 0) := h0
    clear h0
    have HV : Hid ((0 : Int) = V) := by show _ = V; rw [← HV0.out]; unfold Hs.nrV; rw [HK0.out, ← HK.out, if_neg (by decide)]
    go_upto_region 6 with (first | (refine load_blk 28 _ Try.underlying28 (by kernel_rfl) F0.out rfl rfl rfl ?_) | (go_at_call 39; refine (isMask_any h _ f1 f2 _).mono ?_; rw [hR]; rintro e w2 ⟨rfl, hb⟩; have F0 : Hid (Blk w2 b0 [.int .i64 h.fl, .int .i64 h.gp, .int .i64 h.ln, .int .i64 h.rf, .int .i64 h.sp, .int .i64 h.pu, .int .i64 h.br, .int .i64 h.dr, .int .i64 h.lv, .int .i64 h.dO, .int .i64 h.ld, .int .i64 h.qu]) := F0.out.below hb F0.out.lt; have F1 : Hid (Blk w2 b1 [.int .i64 0, .int .i64 0]) := F1.out.below hb F1.out.lt; have FB : Hid (Below w.heap.size w w2) := FB.out.trans (hb.mono FB.out.size); clear hb; have z0 := F0.out.c 0 _ rfl) | (refine load_blkgd 28 _ Try.underlying28 (by kernel_rfl) F0.out (by kernel_rfl) rfl rfl ?_) | (go_at_call 46; refine (isFloor_any h _ f1 f2 _).mono ?_; rw [hC]; rintro e w3 ⟨rfl, hb⟩; have F0 : Hid (Blk w3 b0 [.int .i64 h.fl, .int .i64 h.gp, .int .i64 h.ln, .int .i64 h.rf, .int .i64 h.sp, .int .i64 h.pu, .int .i64 h.br, .int .i64 h.dr, .int .i64 h.lv, .int .i64 h.dO, .int .i64 h.ld, .int .i64 h.qu]) := F0.out.below hb F0.out.lt; have F1 : Hid (Blk w3 b1 [.int .i64 0, .int .i64 0]) := F1.out.below hb F1.out.lt; have FB : Hid (Below w.heap.size w w3) := FB.out.trans (hb.mono FB.out.size); clear hb))
    go_wp2_with (refine store_blk [.int .i64 (4), .int .i64 (0)] 42 _ _ (by kernel_rfl) (by kernel_rfl) (by kernel_rfl) F1.out rfl rfl rfl rfl ?_)
    exact bodyPost_ret (v := .agg #[.int .i64 (4), .int .i64 (0)]) ((F1.out.row [.int .i64 (4), .int .i64 (0)]).res _ Try.results20 Try.underlying42 (by kernel_rfl) rfl) rfl ⟨ret_pr HK.out HV.out, below_row FB.out leb1 _⟩
  case neg =>
  have HK : Hid ((0 : Int) = K) := by show _ = K; rw [HK0'.out, if_neg h0]
  have HV : Hid (nearL (fls 12 M) f (-12) = V) := by
    show _ = V
    rw [← HV0.out]
    unfold Hs.nrV
    rw [HK0.out, ← HK.out, if_pos rfl, Int.toNat_natCast]
  have dz : ((M : Int) == 0) = false := by simp; omega
  go_upto_region 6 with (first | (refine load_blk 28 _ Try.underlying28 (by kernel_rfl) F0.out rfl rfl rfl ?_) | (go_at_call 39; refine (isMask_any h _ f1 f2 _).mono ?_; rw [hR]; rintro e w2 ⟨rfl, hb⟩; have F0 : Hid (Blk w2 b0 [.int .i64 h.fl, .int .i64 h.gp, .int .i64 h.ln, .int .i64 h.rf, .int .i64 h.sp, .int .i64 h.pu, .int .i64 h.br, .int .i64 h.dr, .int .i64 h.lv, .int .i64 h.dO, .int .i64 h.ld, .int .i64 h.qu]) := F0.out.below hb F0.out.lt; have F1 : Hid (Blk w2 b1 [.int .i64 0, .int .i64 0]) := F1.out.below hb F1.out.lt; have FB : Hid (Below w.heap.size w w2) := FB.out.trans (hb.mono FB.out.size); clear hb; have z0 := F0.out.c 0 _ rfl) | (refine load_blkgd 28 _ Try.underlying28 (by kernel_rfl) F0.out (by kernel_rfl) rfl rfl ?_) | (go_at_call 46; refine (isFloor_any h _ f1 f2 _).mono ?_; rw [hC]; rintro e w3 ⟨rfl, hb⟩; have F0 : Hid (Blk w3 b0 [.int .i64 h.fl, .int .i64 h.gp, .int .i64 h.ln, .int .i64 h.rf, .int .i64 h.sp, .int .i64 h.pu, .int .i64 h.br, .int .i64 h.dr, .int .i64 h.lv, .int .i64 h.dO, .int .i64 h.ld, .int .i64 h.qu]) := F0.out.below hb F0.out.lt; have F1 : Hid (Blk w3 b1 [.int .i64 0, .int .i64 0]) := F1.out.below hb F1.out.lt; have FB : Hid (Below w.heap.size w w3) := FB.out.trans (hb.mono FB.out.size); clear hb))
  go_upto_region 8 with fail
  go_wp2_with (first | (go_at_call 41; refine (setOf_any M hM2 _).mono ?_; rintro e w4 ⟨rfl, hb⟩; have F0 : Hid (Blk w4 b0 [.int .i64 h.fl, .int .i64 h.gp, .int .i64 h.ln, .int .i64 h.rf, .int .i64 h.sp, .int .i64 h.pu, .int .i64 h.br, .int .i64 h.dr, .int .i64 h.lv, .int .i64 h.dO, .int .i64 h.ld, .int .i64 h.qu]) := F0.out.below hb F0.out.lt; have F1 : Hid (Blk w4 b1 [.int .i64 0, .int .i64 0]) := F1.out.below hb F1.out.lt; have FB : Hid (Below w.heap.size w w4) := FB.out.trans (hb.mono FB.out.size); clear hb) | (go_at_call 47; refine (nearest_any M f x1 (by omega) _).mono ?_; rw [HV.out]; rintro e w5 ⟨rfl, hb⟩; have F0 : Hid (Blk w5 b0 [.int .i64 h.fl, .int .i64 h.gp, .int .i64 h.ln, .int .i64 h.rf, .int .i64 h.sp, .int .i64 h.pu, .int .i64 h.br, .int .i64 h.dr, .int .i64 h.lv, .int .i64 h.dO, .int .i64 h.ld, .int .i64 h.qu]) := F0.out.below hb F0.out.lt; have F1 : Hid (Blk w5 b1 [.int .i64 0, .int .i64 0]) := F1.out.below hb F1.out.lt; have FB : Hid (Below w.heap.size w w5) := FB.out.trans (hb.mono FB.out.size); clear hb) | (refine store_blk [.int .i64 (0), .int .i64 (V)] 42 _ _ (by kernel_rfl) (by kernel_rfl) (by kernel_rfl) F1.out rfl rfl rfl rfl ?_))
  exact bodyPost_ret (v := .agg #[.int .i64 (0), .int .i64 (V)]) ((F1.out.row [.int .i64 (0), .int .i64 (V)]).res _ Try.results20 Try.underlying42 (by kernel_rfl) rfl) rfl ⟨ret_pr HK.out rfl, below_row FB.out leb1 _⟩
end Go.Proofs.Ythinefjakimccaa
