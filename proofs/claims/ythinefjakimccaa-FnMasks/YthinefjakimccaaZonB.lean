/-
  Zones: FloorsOf, NearestIn, ZonesFault (the model).
-/
import Derived.Test.YthinefjakimccaaZonA
namespace Go.Proofs.Ythinefjakimccaa
open Go.RowKit Pl
set_option linter.unusedSimpArgs false
set_option linter.unusedVariables false

set_option maxRecDepth 20000 in
set_option maxHeartbeats 16000000 in
theorem specFloorsOf_any (h : Hs) (m : Int) (w : World) :
    Calls Try.prog 18 #[.agg #[.int .i64 h.fl, .int .i64 h.gp, .int .i64 h.ln, .int .i64 h.rf, .int .i64 h.sp, .int .i64 h.pu, .int .i64 h.br, .int .i64 h.dr, .int .i64 h.lv, .int .i64 h.dO, .int .i64 h.ld, .int .i64 h.qu], .int .i64 m] w fun e w' => (∃ v, e = .returned (.agg #[.int .i64 (h.flsK m), v]) ∧ OwI w' w.heap.size v (h.flsL m)) ∧ Below w.heap.size w w' := by
  obtain ⟨K, hK⟩ : ∃ K, h.flsK m = K := ⟨_, rfl⟩
  obtain ⟨V, hV⟩ : ∃ V, h.flsL m = V := ⟨_, rfl⟩
  rw [hK, hV]
  have HK0 : Hid (h.flsK m = K) := hK
  have HV0 : Hid (h.flsL m = V) := hV
  clear hK hV
  obtain ⟨b0, hb0⟩ : ∃ b0, b0 = w.heap.size := ⟨_, rfl⟩
  obtain ⟨b1, hb1⟩ : ∃ b1, b1 = b0 + 1 := ⟨_, rfl⟩
  obtain ⟨W0, hW0⟩ : ∃ W0, W0 = (w.alloc (.cells #[.int .i64 h.fl, .int .i64 h.gp, .int .i64 h.ln, .int .i64 h.rf, .int .i64 h.sp, .int .i64 h.pu, .int .i64 h.br, .int .i64 h.dr, .int .i64 h.lv, .int .i64 h.dO, .int .i64 h.ld, .int .i64 h.qu] 28)).alloc (.cells #[.int .i64 0, .slice none 0 0] 39) := ⟨_, rfl⟩
  have F0 : Hid (Blk W0 b0 [.int .i64 h.fl, .int .i64 h.gp, .int .i64 h.ln, .int .i64 h.rf, .int .i64 h.sp, .int .i64 h.pu, .int .i64 h.br, .int .i64 h.dr, .int .i64 h.lv, .int .i64 h.dO, .int .i64 h.ld, .int .i64 h.qu]) := by rw [hW0]; exact (Blk.at_ w #[.int .i64 h.fl, .int .i64 h.gp, .int .i64 h.ln, .int .i64 h.rf, .int .i64 h.sp, .int .i64 h.pu, .int .i64 h.br, .int .i64 h.dr, .int .i64 h.lv, .int .i64 h.dO, .int .i64 h.ld, .int .i64 h.qu] _ _ hb0).alloc _
  have F1 : Hid (Blk W0 b1 [.int .i64 0, .slice none 0 0]) := by rw [hW0]; exact Blk.at_ _ #[.int .i64 0, .slice none 0 0] _ _ (by simp; omega)
  have FB : Hid (Below w.heap.size w W0) := by rw [hW0]; exact ((Below.refl _ _).alloc (Nat.le_refl _) _).alloc (by simp) _
  have leb0 : w.heap.size ≤ b0 := by omega
  have leb1 : w.heap.size ≤ b1 := by omega
  have l01 : b0 < b1 := by omega
  obtain ⟨kf, hkf⟩ : ∃ kf, h.fault = kf := ⟨_, rfl⟩
  have HF : Hid (h.fault = kf) := hkf
  clear hkf
  go_enter Try.func18, Try.ntmps18
  go_upto_region 1 with fail
  rw [← hb0, ← hb1, ← hW0]
  clear hb0 hb1 hW0
  go_upto_region 2 with (first | (refine load_blk 28 _ Try.underlying28 (by kernel_rfl) F0.out rfl rfl rfl ?_) | (go_at_call 43; refine (specFault_any h _).mono ?_; rw [HF.out]; rintro e w1 ⟨rfl, hb⟩; have F0 : Hid (Blk w1 b0 [.int .i64 h.fl, .int .i64 h.gp, .int .i64 h.ln, .int .i64 h.rf, .int .i64 h.sp, .int .i64 h.pu, .int .i64 h.br, .int .i64 h.dr, .int .i64 h.lv, .int .i64 h.dO, .int .i64 h.ld, .int .i64 h.qu]) := F0.out.below hb F0.out.lt; have F1 : Hid (Blk w1 b1 [.int .i64 0, .slice none 0 0]) := F1.out.below hb F1.out.lt; have FB : Hid (Below w.heap.size w w1) := FB.out.trans (hb.mono FB.out.size); clear hb))
  by_cases hz : kf = 0
  case neg =>
    have hn : (kf != 0) = true := by simpa using hz
    have HK : Hid ((kf : Int) = K) := by show _ = K; rw [← HK0.out]; unfold Hs.flsK; rw [HF.out, if_neg hz]
    have HV : Hid ([] = V) := by show _ = V; rw [← HV0.out]; unfold Hs.flsL; rw [HK0.out, ← HK.out, if_neg (by first | assumption | decide)]
    go_wp2_with (first | (refine store_blk [.int .i64 (kf), .slice none 0 0] 39 _ _ (by kernel_rfl) (by kernel_rfl) (by kernel_rfl) F1.out rfl rfl rfl rfl ?_))
    exact bodyPost_ret (v := .agg #[.int .i64 (kf), .slice none 0 0]) ((F1.out.row [.int .i64 (kf), .slice none 0 0]).res _ Try.results18 Try.underlying39 (by kernel_rfl) rfl) rfl ⟨⟨_, by rw [HK.out], by rw [← HV.out]; exact owi_nil _ _⟩, below_row FB.out leb1 _⟩
  case pos =>
  subst hz
  obtain ⟨f1, f2⟩ := fl_of HF.out
  cases hR : h.right m
  · skip
    have HK : Hid ((3 : Int) = K) := by show _ = K; rw [← HK0.out]; unfold Hs.flsK; rw [HF.out, if_pos rfl, hR]; rfl
    have HV : Hid ([] = V) := by show _ = V; rw [← HV0.out]; unfold Hs.flsL; rw [HK0.out, ← HK.out, if_neg (by first | assumption | decide)]
    go_wp2_with (first | (refine load_blk 28 _ Try.underlying28 (by kernel_rfl) F0.out rfl rfl rfl ?_) | (go_at_call 44; refine (l12Right_any h m f1 f2 _).mono ?_; rw [hR]; rintro e w2 ⟨rfl, hb⟩; have F0 : Hid (Blk w2 b0 [.int .i64 h.fl, .int .i64 h.gp, .int .i64 h.ln, .int .i64 h.rf, .int .i64 h.sp, .int .i64 h.pu, .int .i64 h.br, .int .i64 h.dr, .int .i64 h.lv, .int .i64 h.dO, .int .i64 h.ld, .int .i64 h.qu]) := F0.out.below hb F0.out.lt; have F1 : Hid (Blk w2 b1 [.int .i64 0, .slice none 0 0]) := F1.out.below hb F1.out.lt; have FB : Hid (Below w.heap.size w w2) := FB.out.trans (hb.mono FB.out.size); clear hb) | (refine store_blk [.int .i64 (3), .slice none 0 0] 39 _ _ (by kernel_rfl) (by kernel_rfl) (by kernel_rfl) F1.out rfl rfl rfl rfl ?_))
    exact bodyPost_ret (v := .agg #[.int .i64 (3), .slice none 0 0]) ((F1.out.row [.int .i64 (3), .slice none 0 0]).res _ Try.results18 Try.underlying39 (by kernel_rfl) rfl) rfl ⟨⟨_, by rw [HK.out], by rw [← HV.out]; exact owi_nil _ _⟩, below_row FB.out leb1 _⟩
  · obtain ⟨M, rfl, hM1, hM2⟩ := right_nat f2 hR
    have HK : Hid ((0 : Int) = K) := by show _ = K; rw [← HK0.out]; unfold Hs.flsK; rw [HF.out, if_pos rfl, hR]; rfl
    have HV : Hid (fls 12 M = V) := by show _ = V; rw [← HV0.out]; unfold Hs.flsL; rw [HK0.out, ← HK.out, if_pos rfl, Int.toNat_natCast]
    go_upto_region 5 with (first | (refine load_blk 28 _ Try.underlying28 (by kernel_rfl) F0.out rfl rfl rfl ?_) | (go_at_call 44; refine (l12Right_any h _ f1 f2 _).mono ?_; rw [hR]; rintro e w2 ⟨rfl, hb⟩; have F0 : Hid (Blk w2 b0 [.int .i64 h.fl, .int .i64 h.gp, .int .i64 h.ln, .int .i64 h.rf, .int .i64 h.sp, .int .i64 h.pu, .int .i64 h.br, .int .i64 h.dr, .int .i64 h.lv, .int .i64 h.dO, .int .i64 h.ld, .int .i64 h.qu]) := F0.out.below hb F0.out.lt; have F1 : Hid (Blk w2 b1 [.int .i64 0, .slice none 0 0]) := F1.out.below hb F1.out.lt; have FB : Hid (Below w.heap.size w w2) := FB.out.trans (hb.mono FB.out.size); clear hb))
    go_upto_region 6 with fail
    go_wp2_with (first | (refine load_blk 28 _ Try.underlying28 (by kernel_rfl) F0.out rfl rfl rfl ?_) | (go_at_call 45; refine (l12Floors_any h M f1 f2 hM2 _).mono ?_; rw [← fls_cut hM1 (show h.fl.toNat ≤ 12 by omega), HV.out]; rintro e w3 ⟨v, rfl, ho, hb⟩; have HO : Hid (OwI w3 w.heap.size v V) := ho.base FB.out.size; have HOb : Hid (∀ k, v.ownBlock = some k → b1 < k) := (fun k hk => Nat.lt_of_lt_of_le F1.out.lt (ho.lt k hk).1); have F0 : Hid (Blk w3 b0 [.int .i64 h.fl, .int .i64 h.gp, .int .i64 h.ln, .int .i64 h.rf, .int .i64 h.sp, .int .i64 h.pu, .int .i64 h.br, .int .i64 h.dr, .int .i64 h.lv, .int .i64 h.dO, .int .i64 h.ld, .int .i64 h.qu]) := F0.out.below hb F0.out.lt; have F1 : Hid (Blk w3 b1 [.int .i64 0, .slice none 0 0]) := F1.out.below hb F1.out.lt; have FB : Hid (Below w.heap.size w w3) := FB.out.trans (hb.mono FB.out.size); clear hb; clear ho; obtain ⟨va, vc, rfl⟩ := HO.out.sl; have HOV : Hid (OwI (w3.setRow b1 #[.int .i64 0, .slice va V.length vc]) w.heap.size (.slice va V.length vc) V) := (OwI.kept (row := some b1) HO.out ⟨rfl, rfl, rfl, by simp, fun k _ hne => setRow_other _ b1 k _ (fun q => hne (by rw [q]))⟩ (Or.inr (fun c => by have := HOb.out b1 c; omega)))) | (refine store_blk [.int .i64 (0), .slice va V.length vc] 39 _ _ (by kernel_rfl) (by kernel_rfl) (by kernel_rfl) F1.out rfl rfl rfl rfl ?_))
    exact bodyPost_ret (v := .agg #[.int .i64 (0), .slice va V.length vc]) ((F1.out.row [.int .i64 (0), .slice va V.length vc]).res _ Try.results18 Try.underlying39 (by kernel_rfl) rfl) rfl ⟨⟨_, by rw [HK.out], HOV.out⟩, below_row FB.out leb1 _⟩
set_option maxRecDepth 20000 in
set_option maxHeartbeats 16000000 in
theorem specNearest_any (h : Hs) (m f : Int) (w : World) :
    Calls Try.prog 21 #[.agg #[.int .i64 h.fl, .int .i64 h.gp, .int .i64 h.ln, .int .i64 h.rf, .int .i64 h.sp, .int .i64 h.pu, .int .i64 h.br, .int .i64 h.dr, .int .i64 h.lv, .int .i64 h.dO, .int .i64 h.ld, .int .i64 h.qu], .int .i64 m, .int .i64 f] w fun e w' => e = .returned (.agg #[.int .i64 (h.nrK m f), .int .i64 (h.nrV m f)]) ∧ Below w.heap.size w w' := by
  obtain ⟨K, hK⟩ : ∃ K, h.nrK m f = K := ⟨_, rfl⟩
  obtain ⟨V, hV⟩ : ∃ V, h.nrV m f = V := ⟨_, rfl⟩
  rw [hK, hV]
  have HK0 : Hid (h.nrK m f = K) := hK
  have HV0 : Hid (h.nrV m f = V) := hV
  clear hK hV
  obtain ⟨b0, hb0⟩ : ∃ b0, b0 = w.heap.size := ⟨_, rfl⟩
  obtain ⟨b1, hb1⟩ : ∃ b1, b1 = b0 + 1 := ⟨_, rfl⟩
  obtain ⟨W0, hW0⟩ : ∃ W0, W0 = (w.alloc (.cells #[.int .i64 h.fl, .int .i64 h.gp, .int .i64 h.ln, .int .i64 h.rf, .int .i64 h.sp, .int .i64 h.pu, .int .i64 h.br, .int .i64 h.dr, .int .i64 h.lv, .int .i64 h.dO, .int .i64 h.ld, .int .i64 h.qu] 28)).alloc (.cells #[.int .i64 0, .int .i64 0] 42) := ⟨_, rfl⟩
  have F0 : Hid (Blk W0 b0 [.int .i64 h.fl, .int .i64 h.gp, .int .i64 h.ln, .int .i64 h.rf, .int .i64 h.sp, .int .i64 h.pu, .int .i64 h.br, .int .i64 h.dr, .int .i64 h.lv, .int .i64 h.dO, .int .i64 h.ld, .int .i64 h.qu]) := by rw [hW0]; exact (Blk.at_ w #[.int .i64 h.fl, .int .i64 h.gp, .int .i64 h.ln, .int .i64 h.rf, .int .i64 h.sp, .int .i64 h.pu, .int .i64 h.br, .int .i64 h.dr, .int .i64 h.lv, .int .i64 h.dO, .int .i64 h.ld, .int .i64 h.qu] _ _ hb0).alloc _
  have F1 : Hid (Blk W0 b1 [.int .i64 0, .int .i64 0]) := by rw [hW0]; exact Blk.at_ _ #[.int .i64 0, .int .i64 0] _ _ (by simp; omega)
  have FB : Hid (Below w.heap.size w W0) := by rw [hW0]; exact ((Below.refl _ _).alloc (Nat.le_refl _) _).alloc (by simp) _
  have leb0 : w.heap.size ≤ b0 := by omega
  have leb1 : w.heap.size ≤ b1 := by omega
  have l01 : b0 < b1 := by omega
  obtain ⟨kf, hkf⟩ : ∃ kf, h.fault = kf := ⟨_, rfl⟩
  have HF : Hid (h.fault = kf) := hkf
  clear hkf
  go_enter Try.func21, Try.ntmps21
  go_upto_region 1 with fail
  rw [← hb0, ← hb1, ← hW0]
  clear hb0 hb1 hW0
  go_upto_region 2 with (first | (refine load_blk 28 _ Try.underlying28 (by kernel_rfl) F0.out rfl rfl rfl ?_) | (go_at_call 43; refine (specFault_any h _).mono ?_; rw [HF.out]; rintro e w1 ⟨rfl, hb⟩; have F0 : Hid (Blk w1 b0 [.int .i64 h.fl, .int .i64 h.gp, .int .i64 h.ln, .int .i64 h.rf, .int .i64 h.sp, .int .i64 h.pu, .int .i64 h.br, .int .i64 h.dr, .int .i64 h.lv, .int .i64 h.dO, .int .i64 h.ld, .int .i64 h.qu]) := F0.out.below hb F0.out.lt; have F1 : Hid (Blk w1 b1 [.int .i64 0, .int .i64 0]) := F1.out.below hb F1.out.lt; have FB : Hid (Below w.heap.size w w1) := FB.out.trans (hb.mono FB.out.size); clear hb))
  by_cases hz : kf = 0
  case neg =>
    have hn : (kf != 0) = true := by simpa using hz
    have HK : Hid ((kf : Int) = K) := by show _ = K; rw [← HK0.out]; unfold Hs.nrK; rw [HF.out, if_neg hz]
    have HV : Hid ((0 : Int) = V) := by show _ = V; rw [← HV0.out]; unfold Hs.nrV; rw [HK0.out, ← HK.out, if_neg (by first | assumption | decide)]
    go_wp2_with (refine store_blk [.int .i64 (kf), .int .i64 (0)] 42 _ _ (by kernel_rfl) (by kernel_rfl) (by kernel_rfl) F1.out rfl rfl rfl rfl ?_)
    exact bodyPost_ret (v := .agg #[.int .i64 (kf), .int .i64 (0)]) ((F1.out.row [.int .i64 (kf), .int .i64 (0)]).res _ Try.results21 Try.underlying42 (by kernel_rfl) rfl) rfl ⟨ret_pr HK.out HV.out, below_row FB.out leb1 _⟩
  case pos =>
  subst hz
  obtain ⟨f1, f2⟩ := fl_of HF.out
  have ef : IntKind.i64.wrap (h.fl - 1) = h.fl - 1 := IntWalk.i64_in _ (by omega)
  have ef2 : wrap64 (h.fl - 1) = h.fl - 1 := by unfold wrap64; omega
  cases hR : h.right m
  · skip
    have HK : Hid ((3 : Int) = K) := by show _ = K; rw [← HK0.out]; unfold Hs.nrK; rw [HF.out, if_pos rfl, hR, if_neg (by simp)]
    have HV : Hid ((0 : Int) = V) := by show _ = V; rw [← HV0.out]; unfold Hs.nrV; rw [HK0.out, ← HK.out, if_neg (by first | assumption | decide)]
    go_wp2_with (first | (refine load_blk 28 _ Try.underlying28 (by kernel_rfl) F0.out rfl rfl rfl ?_) | (go_at_call 44; refine (l12Right_any h m f1 f2 _).mono ?_; rw [hR]; rintro e w2 ⟨rfl, hb⟩; have F0 : Hid (Blk w2 b0 [.int .i64 h.fl, .int .i64 h.gp, .int .i64 h.ln, .int .i64 h.rf, .int .i64 h.sp, .int .i64 h.pu, .int .i64 h.br, .int .i64 h.dr, .int .i64 h.lv, .int .i64 h.dO, .int .i64 h.ld, .int .i64 h.qu]) := F0.out.below hb F0.out.lt; have F1 : Hid (Blk w2 b1 [.int .i64 0, .int .i64 0]) := F1.out.below hb F1.out.lt; have FB : Hid (Below w.heap.size w w2) := FB.out.trans (hb.mono FB.out.size); clear hb) | (refine store_blk [.int .i64 (3), .int .i64 (0)] 42 _ _ (by kernel_rfl) (by kernel_rfl) (by kernel_rfl) F1.out rfl rfl rfl rfl ?_))
    exact bodyPost_ret (v := .agg #[.int .i64 (3), .int .i64 (0)]) ((F1.out.row [.int .i64 (3), .int .i64 (0)]).res _ Try.results21 Try.underlying42 (by kernel_rfl) rfl) rfl ⟨ret_pr HK.out HV.out, below_row FB.out leb1 _⟩
  cases hC : inB f 0 (h.fl - 1)
  · skip
    have HK : Hid ((3 : Int) = K) := by show _ = K; rw [← HK0.out]; unfold Hs.nrK; rw [HF.out, if_pos rfl, hR, hC, if_neg (by simp)]
    have HV : Hid ((0 : Int) = V) := by show _ = V; rw [← HV0.out]; unfold Hs.nrV; rw [HK0.out, ← HK.out, if_neg (by first | assumption | decide)]
    go_wp2_with (first | (refine load_blk 28 _ Try.underlying28 (by kernel_rfl) F0.out rfl rfl rfl ?_) | (go_at_call 44; refine (l12Right_any h m f1 f2 _).mono ?_; rw [hR]; rintro e w2 ⟨rfl, hb⟩; have F0 : Hid (Blk w2 b0 [.int .i64 h.fl, .int .i64 h.gp, .int .i64 h.ln, .int .i64 h.rf, .int .i64 h.sp, .int .i64 h.pu, .int .i64 h.br, .int .i64 h.dr, .int .i64 h.lv, .int .i64 h.dO, .int .i64 h.ld, .int .i64 h.qu]) := F0.out.below hb F0.out.lt; have F1 : Hid (Blk w2 b1 [.int .i64 0, .int .i64 0]) := F1.out.below hb F1.out.lt; have FB : Hid (Below w.heap.size w w2) := FB.out.trans (hb.mono FB.out.size); clear hb; have z0 := F0.out.c 0 _ rfl) | (refine load_blkgd 28 _ Try.underlying28 (by kernel_rfl) F0.out (by kernel_rfl) rfl rfl ?_) | (go_at_call 48; refine (l1In_any _ _ _ _).mono ?_; rw [hC]; rintro e w' ⟨rfl, hw⟩; obtain rfl := hw.symm; clear hw) | (refine store_blk [.int .i64 (3), .int .i64 (0)] 42 _ _ (by kernel_rfl) (by kernel_rfl) (by kernel_rfl) F1.out rfl rfl rfl rfl ?_))
    exact bodyPost_ret (v := .agg #[.int .i64 (3), .int .i64 (0)]) ((F1.out.row [.int .i64 (3), .int .i64 (0)]).res _ Try.results21 Try.underlying42 (by kernel_rfl) rfl) rfl ⟨ret_pr HK.out HV.out, below_row FB.out leb1 _⟩
  obtain ⟨M, rfl, hM1, hM2⟩ := right_nat f2 hR
  obtain ⟨x1, x2⟩ := inB_iff.1 hC
  have HK0' : Hid (K = if M = 0 then 4 else 0) := by
    show K = _
    rw [← HK0.out]
    unfold Hs.nrK
    rw [HF.out, if_pos rfl, if_pos ⟨hR, hC⟩]
    by_cases c : M = 0
    · subst c; rfl
    · rw [if_neg (by omega), if_neg c]
  go_upto_region 5 with (first | (refine load_blk 28 _ Try.underlying28 (by kernel_rfl) F0.out rfl rfl rfl ?_) | (go_at_call 44; refine (l12Right_any h _ f1 f2 _).mono ?_; rw [hR]; rintro e w2 ⟨rfl, hb⟩; have F0 : Hid (Blk w2 b0 [.int .i64 h.fl, .int .i64 h.gp, .int .i64 h.ln, .int .i64 h.rf, .int .i64 h.sp, .int .i64 h.pu, .int .i64 h.br, .int .i64 h.dr, .int .i64 h.lv, .int .i64 h.dO, .int .i64 h.ld, .int .i64 h.qu]) := F0.out.below hb F0.out.lt; have F1 : Hid (Blk w2 b1 [.int .i64 0, .int .i64 0]) := F1.out.below hb F1.out.lt; have FB : Hid (Below w.heap.size w w2) := FB.out.trans (hb.mono FB.out.size); clear hb; have z0 := F0.out.c 0 _ rfl) | (refine load_blkgd 28 _ Try.underlying28 (by kernel_rfl) F0.out (by kernel_rfl) rfl rfl ?_) | (go_at_call 48; refine (l1In_any _ _ _ _).mono ?_; rw [hC]; rintro e w' ⟨rfl, hw⟩; obtain rfl := hw.symm; clear hw))
  go_upto_region 6 with fail
  obtain ⟨L, hL⟩ : ∃ L, fls 12 M = L := ⟨_, rfl⟩
  have HL : Hid (fls 12 M = L) := hL
  have HL2 : Hid (fls h.fl.toNat M = L) := by show _ = L; rw [← fls_cut hM1 (show h.fl.toNat ≤ 12 by omega), hL]
  have ll : L.length ≤ 12 := by rw [← hL]; exact fls_len _ _
  have HB : Hid (∀ x ∈ L, 0 ≤ x ∧ x < 12) := fun x hx => by rw [← hL] at hx; obtain ⟨k, rfl, hk, _⟩ := mem_fls.1 hx; omega
  have HN : Hid (L = [] ↔ M = 0) := by rw [← hL]; exact fls_nil hM2
  clear hL
  go_upto_region 7 with (first | (refine load_blk 28 _ Try.underlying28 (by kernel_rfl) F0.out rfl rfl rfl ?_) | (go_at_call 45; refine (l12Floors_any h M f1 f2 hM2 _).mono ?_; rw [HL2.out]; rintro e w4 ⟨v, rfl, ho, hb⟩; have HO : Hid (OwI w4 w2.heap.size v L) := ho; have HOb : Hid (∀ k, v.ownBlock = some k → b1 < k) := (fun k hk => Nat.lt_of_lt_of_le F1.out.lt (ho.lt k hk).1); have F0 : Hid (Blk w4 b0 [.int .i64 h.fl, .int .i64 h.gp, .int .i64 h.ln, .int .i64 h.rf, .int .i64 h.sp, .int .i64 h.pu, .int .i64 h.br, .int .i64 h.dr, .int .i64 h.lv, .int .i64 h.dO, .int .i64 h.ld, .int .i64 h.qu]) := F0.out.below hb F0.out.lt; have F1 : Hid (Blk w4 b1 [.int .i64 0, .int .i64 0]) := F1.out.below hb F1.out.lt; have FB : Hid (Below w.heap.size w w4) := FB.out.trans (hb.mono FB.out.size); clear hb))
  by_cases h0 : M = 0
  case pos =>
    have e : L = [] := HN.out.2 h0
    subst e
    rcases HO.out.cases with ⟨rfl, _⟩ | ⟨g, cap, rfl⟩
    all_goals
      have HK : Hid ((4 : Int) = K) := by show _ = K; rw [HK0'.out, if_pos h0]
      have HV : Hid ((0 : Int) = V) := by show _ = V; rw [← HV0.out]; unfold Hs.nrV; rw [HK0.out, ← HK.out, if_neg (by decide)]
      go_wp2_with (refine store_blk [.int .i64 (4), .int .i64 (0)] 42 _ _ (by kernel_rfl) (by kernel_rfl) (by kernel_rfl) F1.out rfl rfl rfl rfl ?_)
      exact bodyPost_ret (v := .agg #[.int .i64 (4), .int .i64 (0)]) ((F1.out.row [.int .i64 (4), .int .i64 (0)]).res _ Try.results21 Try.underlying42 (by kernel_rfl) rfl) rfl ⟨ret_pr HK.out HV.out, below_row FB.out leb1 _⟩
  case neg =>
  have hne : L ≠ [] := fun e => h0 (HN.out.1 e)
  rcases HO.out.cases with ⟨_, e⟩ | ⟨g, cap, rfl⟩
  · exact absurd e hne
  obtain ⟨d, T, hdT⟩ : ∃ d T, L = d :: T := by
    cases L with
    | nil => exact absurd rfl hne
    | cons d T => exact ⟨d, T, rfl⟩
  have hd0 : L[0]? = some d := by rw [hdT]; rfl
  have lp : 0 < L.length := List.length_pos_iff.2 hne
  have HK : Hid ((0 : Int) = K) := by show _ = K; rw [HK0'.out, if_neg h0]
  have HD : Hid (0 ≤ d ∧ d < 12) := HB.out d (List.mem_of_getElem? hd0)
  have HV : Hid (nearL L f d = V) := by
    show _ = V
    rw [← HV0.out]
    unfold Hs.nrV
    rw [HK0.out, ← HK.out, if_pos rfl, Int.toNat_natCast, HL.out, hdT]
    exact (nearL_far d (by have := HD.out; omega)).symm
  have c00 := HO.out.cell hd0
  have dl : ((L.length : Int) == 0) = false := by simp; omega
  clear hdT hd0 hne HK0'
  go_upto_region 10 with fail
  clear dl
  go_wp2_with fail
  go_loopw [9, 10] (fun bb ii wr => ∃ i : Nat, ii = .int .i64 (i : Int) ∧ bb = .int .i64 (nearL (L.take i) f d) ∧ i ≤ L.length ∧ wr = w4) (fun _ ii _ => L.length - (intOf ii).toNat)
  case atStart => exact ⟨0, rfl, rfl, by omega, rfl⟩
  case round =>
    obtain ⟨i, rfl, rfl, hi, rfl⟩ := hrel
    by_cases hlt : i < L.length
    · obtain ⟨x, hx⟩ : ∃ x, L[i]? = some x := ⟨_, List.getElem?_eq_getElem hlt⟩
      have hxb := HB.out x (List.mem_of_getElem? hx)
      have c0 := HO.out.cell hx
      have HS : Hid (nearL (L.take (i + 1)) f d = if (x - f).natAbs < (nearL (L.take i) f d - f).natAbs then x else nearL (L.take i) f d) := by
        have hi' : i < L.length := hlt
        have e : L[i] = x := (List.getElem?_eq_some_iff.1 hx).2
        show _ = _
        rw [List.take_succ_eq_append_getElem hi', e, nearL_snoc]
      have qb : 0 ≤ nearL (L.take i) f d ∧ nearL (L.take i) f d < 12 := by
        rcases nearL_mem (L.take i) f d with e | e
        · rw [e]; exact HD.out
        · exact HB.out _ (List.mem_of_mem_take e)
      obtain ⟨q, hq⟩ : ∃ q, nearL (L.take i) f d = q := ⟨_, rfl⟩
      rw [hq] at HS qb ⊢
      have e1 : IntKind.i64.wrap (x - f) = x - f := IntWalk.i64_in _ (by omega)
      have e2 : IntKind.i64.wrap (q - f) = q - f := IntWalk.i64_in _ (by omega)
      have e3 : wrap64 (x - f) = x - f := by unfold wrap64; omega
      have e4 : wrap64 (q - f) = q - f := by unfold wrap64; omega
      have a1 : absI (x - f) = (((x - f).natAbs : Nat) : Int) := by unfold absI; split <;> omega
      have a2 : absI (q - f) = (((q - f).natAbs : Nat) : Int) := by unfold absI; split <;> omega
      clear hx hq
      by_cases dd : (x - f).natAbs < (q - f).natAbs
      · have dt : decide ((((x - f).natAbs : Nat) : Int) < (((q - f).natAbs : Nat) : Int)) = true := decide_eq_true (by omega)
        have dt2 : (x - f).natAbs < (q - f).natAbs := dd
        have HE : Hid (nearL (L.take (i + 1)) f d = x) := by show _ = x; rw [HS.out, if_pos dd]
        clear HS
        go_wp2_with (go_at_call 49; refine (l1Abs_any _ (by omega) (by omega) _).mono ?_; (first | rw [a1] | rw [a2]); rintro e w' ⟨rfl, hw⟩; obtain rfl := hw.symm; clear hw)
        go_roundw
        case rel => exact ⟨i + 1, by simp, by rw [HE.out], by omega, by first | rfl | trivial⟩
        case measure => simp [intOf]; omega
      · have dt : decide ((((x - f).natAbs : Nat) : Int) < (((q - f).natAbs : Nat) : Int)) = false := decide_eq_false (by omega)
        have HE : Hid (nearL (L.take (i + 1)) f d = q) := by show _ = q; rw [HS.out, if_neg dd]
        clear HS
        go_wp2_with (go_at_call 49; refine (l1Abs_any _ (by omega) (by omega) _).mono ?_; (first | rw [a1] | rw [a2]); rintro e w' ⟨rfl, hw⟩; obtain rfl := hw.symm; clear hw)
        go_roundw
        case rel => exact ⟨i + 1, by simp, by rw [HE.out], by omega, by first | rfl | trivial⟩
        case measure => simp [intOf]; omega
    · have e : i = L.length := by omega
      subst e
      rw [List.take_length, HV.out]
      clear HD HB
      go_wp2_with (refine store_blk [.int .i64 (0), .int .i64 (V)] 42 _ _ (by kernel_rfl) (by kernel_rfl) (by kernel_rfl) F1.out rfl rfl rfl rfl ?_)
      exact bodyPost_ret (v := .agg #[.int .i64 (0), .int .i64 (V)]) ((F1.out.row [.int .i64 (0), .int .i64 (V)]).res _ Try.results21 Try.underlying42 (by kernel_rfl) rfl) rfl ⟨ret_pr HK.out rfl, below_row FB.out leb1 _⟩
end Go.Proofs.Ythinefjakimccaa
