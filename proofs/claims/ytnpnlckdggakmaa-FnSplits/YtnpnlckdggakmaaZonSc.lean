/-
  Zones: the floors that some have, that two have (the program).
-/
import Derived.Test.YtnpnlckdggakmaaZonSb
import Derived.Test.YtnpnlckdggakmaaZonM
import Derived.Test.YtnpnlckdggakmaaZonY
import Derived.Deep.DeepCutAuto
namespace Go.Proofs.Ytnpnlckdggakmaa
open Go.RowKit Pl
set_option linter.unusedSimpArgs false
set_option linter.unusedVariables false

theorem ofB_is {p : Nat → Bool} {M : Nat} (hM : M < 4096) (h : ∀ f, f < 12 → M.testBit f = p f) : ofB p 12 = M := by
  apply Nat.eq_of_testBit_eq
  intro f
  rw [ofB_bit]
  by_cases hf : f < 12
  · rw [decide_eq_true hf, h f hf, Bool.true_and]
  · rw [decide_eq_false hf, Bool.false_and]
    have e : (4096 : Nat) = 2 ^ 12 := rfl
    exact (bit_lt (n := 12) (by omega) (by omega)).symm
theorem zones_nat {h : Hs} {l : List Int} (e : h.znK l = 0) : (natL l).map (fun z : Nat => (z : Int)) = l ∧ (∀ z ∈ natL l, z < 4096) ∧ (natL l).length = l.length ∧ l.length ≤ 6 := by
  have hz : ∀ x ∈ l, ((x.toNat : Nat) : Int) = x := fun x hx => by
    obtain ⟨M, hM, -, -, -⟩ := zone_nat e hx
    rw [hM]; simp
  refine ⟨?_, fun z hz => ?_, by unfold natL; simp, (znK_zero e).2.2.1⟩
  · unfold natL
    rw [List.map_map]
    conv => rhs; rw [← List.map_id l]
    exact List.map_congr_left fun x hx => hz x hx
  · have q := natL_lt e (k := l.length)
    rw [List.take_length] at q
    exact q z hz
set_option maxRecDepth 20000 in
set_option maxHeartbeats 16000000 in
theorem implCover_any (h : Hs) (l : List Int) (a : Option Addr) (cap : Nat) (hl : l.length ≤ 1048576) (w : World) (hI : IIn w a l) :
    Calls Try.prog 12 #[.agg #[.int .i64 h.fl, .int .i64 h.gp, .int .i64 h.ln, .int .i64 h.rf, .int .i64 h.sp, .int .i64 h.pu, .int .i64 h.br, .int .i64 h.dr, .int .i64 h.lv, .int .i64 h.dO, .int .i64 h.ld, .int .i64 h.qu], .slice a l.length cap] w fun e w' => e = .returned (.agg #[.int .i64 (h.znK l), .int .i64 (Hs.cvV h l)]) ∧ Below w.heap.size w w' := by
  have HI : Hid (IIn w a l) := hI
  clear hI
  obtain ⟨K, hK⟩ : ∃ K, h.znK l = K := ⟨_, rfl⟩
  obtain ⟨V, hV⟩ : ∃ V, Hs.cvV h l = V := ⟨_, rfl⟩
  rw [hK, hV]
  have HK : Hid (h.znK l = K) := hK
  have HV : Hid (Hs.cvV h l = V) := hV
  clear hK hV
  obtain ⟨b0, hb0⟩ : ∃ b0, b0 = w.heap.size := ⟨_, rfl⟩
  obtain ⟨b1, hb1⟩ : ∃ b1, b1 = b0 + 1 := ⟨_, rfl⟩
  obtain ⟨W0, hW0⟩ : ∃ W0, W0 = (w.alloc (.cells #[.int .i64 h.fl, .int .i64 h.gp, .int .i64 h.ln, .int .i64 h.rf, .int .i64 h.sp, .int .i64 h.pu, .int .i64 h.br, .int .i64 h.dr, .int .i64 h.lv, .int .i64 h.dO, .int .i64 h.ld, .int .i64 h.qu] 25)).alloc (.cells #[.int .i64 0, .int .i64 0] 33) := ⟨_, rfl⟩
  have F0 : Hid (Blk W0 b0 [.int .i64 h.fl, .int .i64 h.gp, .int .i64 h.ln, .int .i64 h.rf, .int .i64 h.sp, .int .i64 h.pu, .int .i64 h.br, .int .i64 h.dr, .int .i64 h.lv, .int .i64 h.dO, .int .i64 h.ld, .int .i64 h.qu]) := by rw [hW0]; exact ((Blk.at_ _ #[.int .i64 h.fl, .int .i64 h.gp, .int .i64 h.ln, .int .i64 h.rf, .int .i64 h.sp, .int .i64 h.pu, .int .i64 h.br, .int .i64 h.dr, .int .i64 h.lv, .int .i64 h.dO, .int .i64 h.ld, .int .i64 h.qu] _ _ hb0).alloc _)
  have F1 : Hid (Blk W0 b1 [.int .i64 0, .int .i64 0]) := by rw [hW0]; exact (Blk.at_ _ #[.int .i64 0, .int .i64 0] _ _ (by simp; omega))
  have FB : Hid (Below w.heap.size w W0) := by rw [hW0]; exact (((Below.refl _ _).alloc (Nat.le_refl _) _).alloc (by simp) _)
  have leb0 : w.heap.size ≤ b0 := by omega
  have leb1 : w.heap.size ≤ b1 := by omega
  have l01 : b0 < b1 := by omega
  go_enter Try.func12, Try.ntmps12
  go_upto_region 1 with fail
  rw [← hb0, ← hb1, ← hW0]
  clear hb0 hb1 hW0
  go_upto_region 2 with (first | (refine load_blk 25 _ Try.underlying25 (by kernel_rfl) F0.out rfl rfl rfl ?_) | (go_at_call 43; refine (implZones_any h l a cap hl _ (HI.out.below FB.out)).mono ?_; rw [HK.out]; rintro e w1 ⟨rfl, hb⟩; have F0 : Hid (Blk w1 b0 [.int .i64 h.fl, .int .i64 h.gp, .int .i64 h.ln, .int .i64 h.rf, .int .i64 h.sp, .int .i64 h.pu, .int .i64 h.br, .int .i64 h.dr, .int .i64 h.lv, .int .i64 h.dO, .int .i64 h.ld, .int .i64 h.qu]) := F0.out.below hb F0.out.lt; have F1 : Hid (Blk w1 b1 [.int .i64 0, .int .i64 0]) := F1.out.below hb F1.out.lt; have FB : Hid (Below w.heap.size w w1) := FB.out.trans (hb.mono FB.out.size); clear hb))
  by_cases hz : K = 0
  case neg =>
    have hn : (K != 0) = true := by simpa using hz
    have HZ : Hid (0 = V) := by show _ = V; rw [← HV.out]; unfold Hs.cvV; rw [HK.out, if_neg hz]
    go_wp2_with (refine store_blk [.int .i64 K, .int .i64 0] 33 _ _ (by kernel_rfl) (by kernel_rfl) (by kernel_rfl) F1.out rfl rfl rfl rfl ?_)
    exact bodyPost_ret (v := .agg #[.int .i64 K, .int .i64 0]) ((F1.out.row [.int .i64 K, .int .i64 0]).res _ Try.results12 Try.underlying33 (by kernel_rfl) rfl) rfl ⟨ret_pr rfl HZ.out, below_row FB.out leb1 _⟩
  case pos =>
  subst hz
  obtain ⟨e1, e2, e3, e4⟩ := zones_nat HK.out
  obtain ⟨M, hM⟩ : ∃ M, ofB (fun f => decide (1 ≤ cntZ (natL l) f)) 12 = M := ⟨_, rfl⟩
  have M4 : M < 4096 := by rw [← hM]; exact ofB_lt _ 12
  have HZ : Hid ((M : Int) = V) := by
    show _ = V
    rw [← HV.out]; unfold Hs.cvV
    rw [HK.out, if_pos rfl, ← hM]
    congr 1
    exact ofB_is (by rw [once_two]; exact (by have q := twoN_lt (natL_lt HK.out (k := l.length)); rw [List.take_length] at q; exact q.1)) (fun f _ => once_bit _ f)
  have CS : ∀ W, IIn W a l → Calls Try.prog 44 #[.slice a l.length cap, .int .i64 1] W fun e w' => e = .returned (.agg (bvs M).toArray) ∧ Below W.heap.size W w' := fun W hW => by
    have z := servedByMany_any (natL l) e2 (by omega) 1 1 rfl a cap W (by rw [e1]; exact hW)
    rw [hM, e3] at z
    exact z
  clear hM e1 e2 e3 e4
  go_wp2_with (first | (go_at_call 44; refine (CS _ (HI.out.below FB.out)).mono ?_; rintro e w2 ⟨rfl, hb⟩; have F0 : Hid (Blk w2 b0 [.int .i64 h.fl, .int .i64 h.gp, .int .i64 h.ln, .int .i64 h.rf, .int .i64 h.sp, .int .i64 h.pu, .int .i64 h.br, .int .i64 h.dr, .int .i64 h.lv, .int .i64 h.dO, .int .i64 h.ld, .int .i64 h.qu]) := F0.out.below hb F0.out.lt; have F1 : Hid (Blk w2 b1 [.int .i64 0, .int .i64 0]) := F1.out.below hb F1.out.lt; have FB : Hid (Below w.heap.size w w2) := FB.out.trans (hb.mono FB.out.size); clear hb) | (go_at_call 39; refine (mask_any M M4 _).mono ?_; rintro e w3 ⟨rfl, hb⟩; have F0 : Hid (Blk w3 b0 [.int .i64 h.fl, .int .i64 h.gp, .int .i64 h.ln, .int .i64 h.rf, .int .i64 h.sp, .int .i64 h.pu, .int .i64 h.br, .int .i64 h.dr, .int .i64 h.lv, .int .i64 h.dO, .int .i64 h.ld, .int .i64 h.qu]) := F0.out.below hb F0.out.lt; have F1 : Hid (Blk w3 b1 [.int .i64 0, .int .i64 0]) := F1.out.below hb F1.out.lt; have FB : Hid (Below w.heap.size w w3) := FB.out.trans (hb.mono FB.out.size); clear hb) | (refine store_blk [.int .i64 0, .int .i64 ((M : Int))] 33 _ _ (by kernel_rfl) (by kernel_rfl) (by kernel_rfl) F1.out rfl rfl rfl rfl ?_))
  exact bodyPost_ret (v := .agg #[.int .i64 0, .int .i64 ((M : Int))]) ((F1.out.row [.int .i64 0, .int .i64 ((M : Int))]).res _ Try.results12 Try.underlying33 (by kernel_rfl) rfl) rfl ⟨ret_pr rfl HZ.out, below_row FB.out leb1 _⟩
set_option maxRecDepth 20000 in
set_option maxHeartbeats 16000000 in
theorem implShared_any (h : Hs) (l : List Int) (a : Option Addr) (cap : Nat) (hl : l.length ≤ 1048576) (w : World) (hI : IIn w a l) :
    Calls Try.prog 15 #[.agg #[.int .i64 h.fl, .int .i64 h.gp, .int .i64 h.ln, .int .i64 h.rf, .int .i64 h.sp, .int .i64 h.pu, .int .i64 h.br, .int .i64 h.dr, .int .i64 h.lv, .int .i64 h.dO, .int .i64 h.ld, .int .i64 h.qu], .slice a l.length cap] w fun e w' => e = .returned (.agg #[.int .i64 (h.znK l), .int .i64 (Hs.shV h l)]) ∧ Below w.heap.size w w' := by
  have HI : Hid (IIn w a l) := hI
  clear hI
  obtain ⟨K, hK⟩ : ∃ K, h.znK l = K := ⟨_, rfl⟩
  obtain ⟨V, hV⟩ : ∃ V, Hs.shV h l = V := ⟨_, rfl⟩
  rw [hK, hV]
  have HK : Hid (h.znK l = K) := hK
  have HV : Hid (Hs.shV h l = V) := hV
  clear hK hV
  obtain ⟨b0, hb0⟩ : ∃ b0, b0 = w.heap.size := ⟨_, rfl⟩
  obtain ⟨b1, hb1⟩ : ∃ b1, b1 = b0 + 1 := ⟨_, rfl⟩
  obtain ⟨W0, hW0⟩ : ∃ W0, W0 = (w.alloc (.cells #[.int .i64 h.fl, .int .i64 h.gp, .int .i64 h.ln, .int .i64 h.rf, .int .i64 h.sp, .int .i64 h.pu, .int .i64 h.br, .int .i64 h.dr, .int .i64 h.lv, .int .i64 h.dO, .int .i64 h.ld, .int .i64 h.qu] 25)).alloc (.cells #[.int .i64 0, .int .i64 0] 33) := ⟨_, rfl⟩
  have F0 : Hid (Blk W0 b0 [.int .i64 h.fl, .int .i64 h.gp, .int .i64 h.ln, .int .i64 h.rf, .int .i64 h.sp, .int .i64 h.pu, .int .i64 h.br, .int .i64 h.dr, .int .i64 h.lv, .int .i64 h.dO, .int .i64 h.ld, .int .i64 h.qu]) := by rw [hW0]; exact ((Blk.at_ _ #[.int .i64 h.fl, .int .i64 h.gp, .int .i64 h.ln, .int .i64 h.rf, .int .i64 h.sp, .int .i64 h.pu, .int .i64 h.br, .int .i64 h.dr, .int .i64 h.lv, .int .i64 h.dO, .int .i64 h.ld, .int .i64 h.qu] _ _ hb0).alloc _)
  have F1 : Hid (Blk W0 b1 [.int .i64 0, .int .i64 0]) := by rw [hW0]; exact (Blk.at_ _ #[.int .i64 0, .int .i64 0] _ _ (by simp; omega))
  have FB : Hid (Below w.heap.size w W0) := by rw [hW0]; exact (((Below.refl _ _).alloc (Nat.le_refl _) _).alloc (by simp) _)
  have leb0 : w.heap.size ≤ b0 := by omega
  have leb1 : w.heap.size ≤ b1 := by omega
  have l01 : b0 < b1 := by omega
  go_enter Try.func15, Try.ntmps15
  go_upto_region 1 with fail
  rw [← hb0, ← hb1, ← hW0]
  clear hb0 hb1 hW0
  go_upto_region 2 with (first | (refine load_blk 25 _ Try.underlying25 (by kernel_rfl) F0.out rfl rfl rfl ?_) | (go_at_call 43; refine (implZones_any h l a cap hl _ (HI.out.below FB.out)).mono ?_; rw [HK.out]; rintro e w1 ⟨rfl, hb⟩; have F0 : Hid (Blk w1 b0 [.int .i64 h.fl, .int .i64 h.gp, .int .i64 h.ln, .int .i64 h.rf, .int .i64 h.sp, .int .i64 h.pu, .int .i64 h.br, .int .i64 h.dr, .int .i64 h.lv, .int .i64 h.dO, .int .i64 h.ld, .int .i64 h.qu]) := F0.out.below hb F0.out.lt; have F1 : Hid (Blk w1 b1 [.int .i64 0, .int .i64 0]) := F1.out.below hb F1.out.lt; have FB : Hid (Below w.heap.size w w1) := FB.out.trans (hb.mono FB.out.size); clear hb))
  by_cases hz : K = 0
  case neg =>
    have hn : (K != 0) = true := by simpa using hz
    have HZ : Hid (0 = V) := by show _ = V; rw [← HV.out]; unfold Hs.shV; rw [HK.out, if_neg hz]
    go_wp2_with (refine store_blk [.int .i64 K, .int .i64 0] 33 _ _ (by kernel_rfl) (by kernel_rfl) (by kernel_rfl) F1.out rfl rfl rfl rfl ?_)
    exact bodyPost_ret (v := .agg #[.int .i64 K, .int .i64 0]) ((F1.out.row [.int .i64 K, .int .i64 0]).res _ Try.results15 Try.underlying33 (by kernel_rfl) rfl) rfl ⟨ret_pr rfl HZ.out, below_row FB.out leb1 _⟩
  case pos =>
  subst hz
  obtain ⟨e1, e2, e3, e4⟩ := zones_nat HK.out
  obtain ⟨M, hM⟩ : ∃ M, ofB (fun f => decide (2 ≤ cntZ (natL l) f)) 12 = M := ⟨_, rfl⟩
  have M4 : M < 4096 := by rw [← hM]; exact ofB_lt _ 12
  have HZ : Hid ((M : Int) = V) := by
    show _ = V
    rw [← HV.out]; unfold Hs.shV
    rw [HK.out, if_pos rfl, ← hM]
    congr 1
    exact ofB_is (by have q := twoN_lt (natL_lt HK.out (k := l.length)); rw [List.take_length] at q; exact q.2) (fun f _ => (two_bit _ f).2)
  have CS : ∀ W, IIn W a l → Calls Try.prog 44 #[.slice a l.length cap, .int .i64 2] W fun e w' => e = .returned (.agg (bvs M).toArray) ∧ Below W.heap.size W w' := fun W hW => by
    have z := servedByMany_any (natL l) e2 (by omega) 2 2 rfl a cap W (by rw [e1]; exact hW)
    rw [hM, e3] at z
    exact z
  clear hM e1 e2 e3 e4
  go_wp2_with (first | (go_at_call 44; refine (CS _ (HI.out.below FB.out)).mono ?_; rintro e w2 ⟨rfl, hb⟩; have F0 : Hid (Blk w2 b0 [.int .i64 h.fl, .int .i64 h.gp, .int .i64 h.ln, .int .i64 h.rf, .int .i64 h.sp, .int .i64 h.pu, .int .i64 h.br, .int .i64 h.dr, .int .i64 h.lv, .int .i64 h.dO, .int .i64 h.ld, .int .i64 h.qu]) := F0.out.below hb F0.out.lt; have F1 : Hid (Blk w2 b1 [.int .i64 0, .int .i64 0]) := F1.out.below hb F1.out.lt; have FB : Hid (Below w.heap.size w w2) := FB.out.trans (hb.mono FB.out.size); clear hb) | (go_at_call 39; refine (mask_any M M4 _).mono ?_; rintro e w3 ⟨rfl, hb⟩; have F0 : Hid (Blk w3 b0 [.int .i64 h.fl, .int .i64 h.gp, .int .i64 h.ln, .int .i64 h.rf, .int .i64 h.sp, .int .i64 h.pu, .int .i64 h.br, .int .i64 h.dr, .int .i64 h.lv, .int .i64 h.dO, .int .i64 h.ld, .int .i64 h.qu]) := F0.out.below hb F0.out.lt; have F1 : Hid (Blk w3 b1 [.int .i64 0, .int .i64 0]) := F1.out.below hb F1.out.lt; have FB : Hid (Below w.heap.size w w3) := FB.out.trans (hb.mono FB.out.size); clear hb) | (refine store_blk [.int .i64 0, .int .i64 ((M : Int))] 33 _ _ (by kernel_rfl) (by kernel_rfl) (by kernel_rfl) F1.out rfl rfl rfl rfl ?_))
  exact bodyPost_ret (v := .agg #[.int .i64 0, .int .i64 ((M : Int))]) ((F1.out.row [.int .i64 0, .int .i64 ((M : Int))]).res _ Try.results15 Try.underlying33 (by kernel_rfl) rfl) rfl ⟨ret_pr rfl HZ.out, below_row FB.out leb1 _⟩
end Go.Proofs.Ytnpnlckdggakmaa
