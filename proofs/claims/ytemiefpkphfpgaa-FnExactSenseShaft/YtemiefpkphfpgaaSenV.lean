/-
  Sensors: the shaft that is sensed (the program).
-/
import Derived.Test.YtemiefpkphfpgaaSenU
import Derived.Test.YtemiefpkphfpgaaSenO
import Derived.Test.YtemiefpkphfpgaaCarK
import Derived.Test.YtemiefpkphfpgaaOr3
namespace Go.Proofs.Ytemiefpkphfpgaa
open Go.RowKit Pl
set_option linter.unusedSimpArgs false
set_option linter.unusedVariables false

set_option maxRecDepth 20000 in
set_option maxHeartbeats 32000000 in
theorem implSense_any (h : Hs) (l u : List Int) (a b : Option Addr) (ca cb : Nat) (m : Int) (wl : ∀ x ∈ l, (Lit.int .i64 x).wf = true) (wu : ∀ x ∈ u, (Lit.int .i64 x).wf = true) (ll : l.length ≤ 1048576) (lu : u.length ≤ 1048576) (w : World) (hl : IIn w a l) (hu : IIn w b u) :
    Calls Try.prog 7 #[.agg #[.int .i64 h.fl, .int .i64 h.gp, .int .i64 h.ln, .int .i64 h.rf, .int .i64 h.sp, .int .i64 h.pu, .int .i64 h.br, .int .i64 h.dr, .int .i64 h.lv, .int .i64 h.dO, .int .i64 h.ld, .int .i64 h.qu], .slice a l.length ca, .slice b u.length cb, .int .i64 m] w fun e w' => e = .returned (.agg #[.int .i64 (senK h l u m), .int .i64 (senV h l u m).lo.pos, .int .i64 (senV h l u m).lo.vel, .int .i64 (senV h l u m).lo.door, .int .i64 (senV h l u m).up.pos, .int .i64 (senV h l u m).up.vel, .int .i64 (senV h l u m).up.door]) ∧ Below w.heap.size w w' := by
  have HL : Hid (IIn w a l) := hl
  have HU : Hid (IIn w b u) := hu
  clear hl hu
  obtain ⟨K, hK⟩ : ∃ K, senK h l u m = K := ⟨_, rfl⟩
  obtain ⟨V, hV⟩ : ∃ V, senV h l u m = V := ⟨_, rfl⟩
  rw [hK, hV]
  have HK0 : Hid (senK h l u m = K) := hK
  have HV0 : Hid (senV h l u m = V) := hV
  have HVn : Hid (K ≠ 0 → (⟨⟨0, 0, 0⟩, ⟨0, 0, 0⟩⟩ : Sh) = V) := fun z => by rw [← hV]; unfold senV; rw [hK, if_neg z]
  have HVy : Hid (K = 0 → senS l u m = V) := fun z => by rw [← hV]; unfold senV; rw [hK, if_pos z]
  clear hK hV
  obtain ⟨b0, hb0⟩ : ∃ b0, b0 = w.heap.size := ⟨_, rfl⟩
  obtain ⟨b1, hb1⟩ : ∃ b1, b1 = b0 + 1 := ⟨_, rfl⟩
  obtain ⟨W0, hW0⟩ : ∃ W0, W0 = (w.alloc (.cells #[.int .i64 h.fl, .int .i64 h.gp, .int .i64 h.ln, .int .i64 h.rf, .int .i64 h.sp, .int .i64 h.pu, .int .i64 h.br, .int .i64 h.dr, .int .i64 h.lv, .int .i64 h.dO, .int .i64 h.ld, .int .i64 h.qu] 32)).alloc (.cells #[.int .i64 0, .int .i64 0, .int .i64 0, .int .i64 0, .int .i64 0, .int .i64 0, .int .i64 0] 30) := ⟨_, rfl⟩
  have F0 : Hid (Blk W0 b0 [.int .i64 h.fl, .int .i64 h.gp, .int .i64 h.ln, .int .i64 h.rf, .int .i64 h.sp, .int .i64 h.pu, .int .i64 h.br, .int .i64 h.dr, .int .i64 h.lv, .int .i64 h.dO, .int .i64 h.ld, .int .i64 h.qu]) := by rw [hW0]; exact (Blk.at_ w #[.int .i64 h.fl, .int .i64 h.gp, .int .i64 h.ln, .int .i64 h.rf, .int .i64 h.sp, .int .i64 h.pu, .int .i64 h.br, .int .i64 h.dr, .int .i64 h.lv, .int .i64 h.dO, .int .i64 h.ld, .int .i64 h.qu] _ _ hb0).alloc _
  have F1 : Hid (Blk W0 b1 [.int .i64 0, .int .i64 0, .int .i64 0, .int .i64 0, .int .i64 0, .int .i64 0, .int .i64 0]) := by rw [hW0]; exact Blk.at_ _ #[.int .i64 0, .int .i64 0, .int .i64 0, .int .i64 0, .int .i64 0, .int .i64 0, .int .i64 0] _ _ (by simp; omega)
  have FB : Hid (Below w.heap.size w W0) := by rw [hW0]; exact ((Below.refl _ _).alloc (Nat.le_refl _) _).alloc (by simp) _
  have leb0 : w.heap.size ≤ b0 := by omega
  have leb1 : w.heap.size ≤ b1 := by omega
  go_enter Try.func7, Try.ntmps7
  go_upto_region 1 with fail
  rw [← hb0, ← hb1, ← hW0]
  clear hb0 hb1 hW0
  obtain ⟨kf, hkf⟩ : ∃ kf, h.fault = kf := ⟨_, rfl⟩
  have HF : Hid (h.fault = kf) := hkf
  clear hkf
  go_upto_region 2 with (first | (refine load_blk 32 _ Try.underlying32 (by kernel_rfl) F0.out rfl rfl rfl ?_) | (go_at_call 13; refine (implFault_any h _).mono ?_; rw [HF.out]; rintro e v1 ⟨rfl, hb⟩; have F0 : Hid (Blk v1 b0 [.int .i64 h.fl, .int .i64 h.gp, .int .i64 h.ln, .int .i64 h.rf, .int .i64 h.sp, .int .i64 h.pu, .int .i64 h.br, .int .i64 h.dr, .int .i64 h.lv, .int .i64 h.dO, .int .i64 h.ld, .int .i64 h.qu]) := F0.out.below hb F0.out.lt; have F1 : Hid (Blk v1 b1 [.int .i64 0, .int .i64 0, .int .i64 0, .int .i64 0, .int .i64 0, .int .i64 0, .int .i64 0]) := F1.out.below hb F1.out.lt; have FB : Hid (Below w.heap.size w v1) := FB.out.trans (hb.mono FB.out.size); clear hb))
  by_cases hz : kf = 0
  case neg =>
    have hn : (kf != 0) = true := by simpa using hz
    have EK : Hid (kf = K) := by show kf = K; rw [← HK0.out]; unfold senK; rw [HF.out, if_neg hz]
    go_wp2_with (first | (refine store_blk [.int .i64 kf, .int .i64 0, .int .i64 0, .int .i64 0, .int .i64 0, .int .i64 0, .int .i64 0] 30 _ _ (by kernel_rfl) (by kernel_rfl) (by kernel_rfl) F1.out rfl rfl rfl rfl ?_))
    exact bodyPost_ret (v := .agg #[.int .i64 kf, .int .i64 0, .int .i64 0, .int .i64 0, .int .i64 0, .int .i64 0, .int .i64 0]) ((F1.out.row [.int .i64 kf, .int .i64 0, .int .i64 0, .int .i64 0, .int .i64 0, .int .i64 0, .int .i64 0]).res _ Try.results7 Try.underlying30 (by kernel_rfl) rfl) rfl ⟨ret_seven (s := ⟨⟨0, 0, 0⟩, ⟨0, 0, 0⟩⟩) EK.out (HVn.out (by rw [← EK.out]; assumption)), below_row FB.out leb1 _⟩
  case pos =>
  subst hz
  by_cases h3 : l.length = 3 ∧ u.length = 3
  case neg =>
    have EK : Hid ((2 : Int) = K) := by show (2 : Int) = K; rw [← HK0.out]; unfold senK; rw [HF.out, if_pos rfl, if_neg h3]
    have n2 : ¬ (2 : Int) = 0 := by decide
    by_cases h4 : l.length = 3
    · have d1 : ((l.length : Int) != 3) = false := by simp; omega
      have d2 : ((u.length : Int) != 3) = true := by simp; omega
      clear h3 h4
      go_wp2_with (first | (refine store_blk [.int .i64 2, .int .i64 0, .int .i64 0, .int .i64 0, .int .i64 0, .int .i64 0, .int .i64 0] 30 _ _ (by kernel_rfl) (by kernel_rfl) (by kernel_rfl) F1.out rfl rfl rfl rfl ?_))
      exact bodyPost_ret (v := .agg #[.int .i64 2, .int .i64 0, .int .i64 0, .int .i64 0, .int .i64 0, .int .i64 0, .int .i64 0]) ((F1.out.row [.int .i64 2, .int .i64 0, .int .i64 0, .int .i64 0, .int .i64 0, .int .i64 0, .int .i64 0]).res _ Try.results7 Try.underlying30 (by kernel_rfl) rfl) rfl ⟨ret_seven (s := ⟨⟨0, 0, 0⟩, ⟨0, 0, 0⟩⟩) EK.out (HVn.out (by rw [← EK.out]; assumption)), below_row FB.out leb1 _⟩
    · have d1 : ((l.length : Int) != 3) = true := by simp; omega
      clear h3 h4
      go_wp2_with (first | (refine store_blk [.int .i64 2, .int .i64 0, .int .i64 0, .int .i64 0, .int .i64 0, .int .i64 0, .int .i64 0] 30 _ _ (by kernel_rfl) (by kernel_rfl) (by kernel_rfl) F1.out rfl rfl rfl rfl ?_))
      exact bodyPost_ret (v := .agg #[.int .i64 2, .int .i64 0, .int .i64 0, .int .i64 0, .int .i64 0, .int .i64 0, .int .i64 0]) ((F1.out.row [.int .i64 2, .int .i64 0, .int .i64 0, .int .i64 0, .int .i64 0, .int .i64 0, .int .i64 0]).res _ Try.results7 Try.underlying30 (by kernel_rfl) rfl) rfl ⟨ret_seven (s := ⟨⟨0, 0, 0⟩, ⟨0, 0, 0⟩⟩) EK.out (HVn.out (by rw [← EK.out]; assumption)), below_row FB.out leb1 _⟩
  case pos =>
  obtain ⟨g, x, y, z, rfl, rfl, ht⟩ := tri_of HL.out h3.1
  obtain ⟨g', x', y', z', rfl, rfl, ht'⟩ := tri_of HU.out h3.2
  have T0 : Hid (Tri v1 g x y z) := ht.below FB.out ht.lt
  have T1 : Hid (Tri v1 g' x' y' z') := ht'.below FB.out ht'.lt
  have gl : g < w.heap.size := ht.lt
  have gl' : g' < w.heap.size := ht'.lt
  clear ht ht' h3 HL HU
  obtain ⟨kl, hkl⟩ : ∃ kl, voteK x y z m = kl := ⟨_, rfl⟩
  obtain ⟨ku, hku⟩ : ∃ ku, voteK x' y' z' m = ku := ⟨_, rfl⟩
  obtain ⟨vl, hvl⟩ : ∃ vl, voteV x y z m = vl := ⟨_, rfl⟩
  obtain ⟨vu, hvu⟩ : ∃ vu, voteV x' y' z' m = vu := ⟨_, rfl⟩
  obtain ⟨ks, hks⟩ : ∃ ks, h.shaft ⟨⟨vl, 0, 0⟩, ⟨vu, 0, 0⟩⟩ = ks := ⟨_, rfl⟩
  have eS : senS [x, y, z] [x', y', z'] m = ⟨⟨vl, 0, 0⟩, ⟨vu, 0, 0⟩⟩ := by
    show (⟨⟨voteV x y z m, 0, 0⟩, ⟨voteV x' y' z' m, 0, 0⟩⟩ : Sh) = _
    rw [hvl, hvu]
  have HKK : Hid ((if kl = 0 then (if ku = 0 then ks else ku) else kl) = K) := by
    show _ = K
    rw [← HK0.out]
    unfold senK
    rw [HF.out, if_pos (show (0 : Int) = 0 from rfl), if_pos (show [x, y, z].length = 3 ∧ [x', y', z'].length = 3 from ⟨rfl, rfl⟩), eS]
    show _ = if voteK x y z m = 0 then (if voteK x' y' z' m = 0 then _ else voteK x' y' z' m) else voteK x y z m
    rw [hkl, hku, hks]
  have HVY : Hid (K = 0 → (⟨⟨vl, 0, 0⟩, ⟨vu, 0, 0⟩⟩ : Sh) = V) := fun q => by rw [← eS]; exact HVy.out q
  have CL : ∀ W, Calls Try.prog 14 #[.int .i64 x, .int .i64 y, .int .i64 z, .int .i64 m] W fun e w' => e = .returned (.agg #[.int .i64 kl, .int .i64 vl]) ∧ Below W.heap.size W w' := by
    intro W
    have q := implVote_any x y z m (bounds_i64 (wl x (by simp))).1 (bounds_i64 (wl x (by simp))).2 (bounds_i64 (wl y (by simp))).1 (bounds_i64 (wl y (by simp))).2 (bounds_i64 (wl z (by simp))).1 (bounds_i64 (wl z (by simp))).2 W
    rw [hkl, hvl] at q
    exact q
  have CU : ∀ W, Calls Try.prog 14 #[.int .i64 x', .int .i64 y', .int .i64 z', .int .i64 m] W fun e w' => e = .returned (.agg #[.int .i64 ku, .int .i64 vu]) ∧ Below W.heap.size W w' := by
    intro W
    have q := implVote_any x' y' z' m (bounds_i64 (wu x' (by simp))).1 (bounds_i64 (wu x' (by simp))).2 (bounds_i64 (wu y' (by simp))).1 (bounds_i64 (wu y' (by simp))).2 (bounds_i64 (wu z' (by simp))).1 (bounds_i64 (wu z' (by simp))).2 W
    rw [hku, hvu] at q
    exact q
  have CF : ∀ W, Calls Try.prog 16 #[.agg #[.int .i64 h.fl, .int .i64 h.gp, .int .i64 h.ln, .int .i64 h.rf, .int .i64 h.sp, .int .i64 h.pu, .int .i64 h.br, .int .i64 h.dr, .int .i64 h.lv, .int .i64 h.dO, .int .i64 h.ld, .int .i64 h.qu], .agg #[.int .i64 vl, .int .i64 0, .int .i64 0, .int .i64 vu, .int .i64 0, .int .i64 0]] W fun e w' => e = .returned (.int .i64 ks) ∧ Below W.heap.size W w' := by
    intro W
    have q := implShaftFault_any h ⟨⟨vl, 0, 0⟩, ⟨vu, 0, 0⟩⟩ W
    rw [hks] at q
    exact q
  clear hkl hku hvl hvu hks eS wl wu HF HK0 HV0 HVy
  go_upto_region 6 with fail
  go_cut [10] from 29 to 72 (fun p wx => ∃ b2, p = .pointer (some ⟨b2, 0, none⟩) ∧ w.heap.size ≤ b2 ∧ Blk wx b2 [.int .i64 kl, .int .i64 vl] ∧ Blk wx b0 [.int .i64 h.fl, .int .i64 h.gp, .int .i64 h.ln, .int .i64 h.rf, .int .i64 h.sp, .int .i64 h.pu, .int .i64 h.br, .int .i64 h.dr, .int .i64 h.lv, .int .i64 h.dO, .int .i64 h.ld, .int .i64 h.qu] ∧ Blk wx b1 [.int .i64 0, .int .i64 0, .int .i64 0, .int .i64 0, .int .i64 0, .int .i64 0, .int .i64 0] ∧ Tri wx g x y z ∧ Tri wx g' x' y' z' ∧ Below w.heap.size w wx)
  case first =>
    have F0 : Hid (Blk v1.drew b0 [.int .i64 h.fl, .int .i64 h.gp, .int .i64 h.ln, .int .i64 h.rf, .int .i64 h.sp, .int .i64 h.pu, .int .i64 h.br, .int .i64 h.dr, .int .i64 h.lv, .int .i64 h.dO, .int .i64 h.ld, .int .i64 h.qu]) := F0.out.below (Below.refl _ _).drew F0.out.lt
    have F1 : Hid (Blk v1.drew b1 [.int .i64 0, .int .i64 0, .int .i64 0, .int .i64 0, .int .i64 0, .int .i64 0, .int .i64 0]) := F1.out.below (Below.refl _ _).drew F1.out.lt
    have T0 : Hid (Tri v1.drew g x y z) := T0.out.below (Below.refl _ _).drew T0.out.lt
    have T1 : Hid (Tri v1.drew g' x' y' z') := T1.out.below (Below.refl _ _).drew T1.out.lt
    have FB : Hid (Below w.heap.size w v1.drew) := FB.out.drew
    have m0 := T0.out.c0
    have m1 := T0.out.c1
    have m2 := T0.out.c2
    refine wp_region_held_drew (S := (fun w'' => w''.cell? ⟨g, 0, none⟩ = some (.int .i64 x) ∧ w''.cell? ⟨g, 1, none⟩ = some (.int .i64 y) ∧ w''.cell? ⟨g, 2, none⟩ = some (.int .i64 z))) (by kernel_rfl) (by (try dsimp only); first | exact ⟨m0, m1, m2⟩ | go_keep) (fun hHeld => ?_)
    obtain ⟨v_1, hw1⟩ : ∃ v_1, v_1 = v1.drew := ⟨_, rfl⟩
    have F0 : Hid (Blk v_1 b0 [.int .i64 h.fl, .int .i64 h.gp, .int .i64 h.ln, .int .i64 h.rf, .int .i64 h.sp, .int .i64 h.pu, .int .i64 h.br, .int .i64 h.dr, .int .i64 h.lv, .int .i64 h.dO, .int .i64 h.ld, .int .i64 h.qu]) := by rw [hw1]; exact F0.out
    have F1 : Hid (Blk v_1 b1 [.int .i64 0, .int .i64 0, .int .i64 0, .int .i64 0, .int .i64 0, .int .i64 0, .int .i64 0]) := by rw [hw1]; exact F1.out
    have T0 : Hid (Tri v_1 g x y z) := by rw [hw1]; exact T0.out
    have T1 : Hid (Tri v_1 g' x' y' z') := by rw [hw1]; exact T1.out
    have FB : Hid (Below w.heap.size w v_1) := by rw [hw1]; exact FB.out
    rw [← hw1] at hHeld ⊢
    clear hw1
    have m0 := T0.out.c0
    have m1 := T0.out.c1
    have m2 := T0.out.c2
    refine tkz 0 rfl ?_
    refine tkz 1 rfl ?_
    refine tkz 2 rfl ?_
    refine tkz 3 rfl ?_
    refine tkz 4 rfl ?_
    refine tkz 5 rfl ?_
    refine tkz 6 rfl ?_
    refine tkz 7 rfl ?_
    refine tkz 8 rfl ?_
    refine tkz 9 rfl ?_
    refine wpAnyH_ready (rs := [10, 11]) (by kernel_rfl) (by simp) ?_
    refine (AllReadyH.cons rfl (fun K hK => ?_) (AllReadyH.cons rfl (fun K hK => ?_) AllReadyH.nil))
    · go_simp
      refine (CL _).mono ?_
      rintro e v_2 ⟨rfl, hb⟩
      have F0 : Hid (Blk v_2 b0 [.int .i64 h.fl, .int .i64 h.gp, .int .i64 h.ln, .int .i64 h.rf, .int .i64 h.sp, .int .i64 h.pu, .int .i64 h.br, .int .i64 h.dr, .int .i64 h.lv, .int .i64 h.dO, .int .i64 h.ld, .int .i64 h.qu]) := F0.out.below hb F0.out.lt
      have F1 : Hid (Blk v_2 b1 [.int .i64 0, .int .i64 0, .int .i64 0, .int .i64 0, .int .i64 0, .int .i64 0, .int .i64 0]) := F1.out.below hb F1.out.lt
      have T0 : Hid (Tri v_2 g x y z) := T0.out.below hb T0.out.lt
      have T1 : Hid (Tri v_2 g' x' y' z') := T1.out.below hb T1.out.lt
      have FB : Hid (Below w.heap.size w v_2) := FB.out.trans (hb.mono FB.out.size)
      clear hb
      have m0 := T0.out.c0
      have m1 := T0.out.c1
      have m2 := T0.out.c2
      try dsimp only
      refine hK.out _ _ (by (try dsimp only); first | exact ⟨m0, m1, m2⟩ | go_keep) (fun hHeld => ?_)
      clear hK K
      try simp only [Act.put, List.getElem_toArray, List.getElem_cons_succ, List.getElem_cons_zero, List.setIfInBounds_toArray, List.set_cons_zero, List.set_cons_succ]
      refine wpAnyH_ready (rs := [11]) (by kernel_rfl) (by simp) ?_
      refine (AllReadyH.cons rfl (fun K hK => ?_) AllReadyH.nil)
      go_simp
      obtain ⟨fb, hbb⟩ : ∃ fb, fb = v_2.heap.size := ⟨_, rfl⟩
      obtain ⟨v_3, hw2⟩ : ∃ v_3, v_3 = v_2.alloc (.cells #[.int .i64 0, .int .i64 0] 40) := ⟨_, rfl⟩
      have lfb : w.heap.size ≤ fb := by rw [hbb]; exact FB.out.size
      have nfb_0 := F0.out.lt
      rw [← hbb] at nfb_0
      have nfb_1 := F1.out.lt
      rw [← hbb] at nfb_1
      have nfb_2 := T0.out.lt
      rw [← hbb] at nfb_2
      have nfb_3 := T1.out.lt
      rw [← hbb] at nfb_3
      have F2 : Hid (Blk v_3 fb [.int .i64 0, .int .i64 0]) := by rw [hw2]; exact Blk.at_ v_2 #[.int .i64 0, .int .i64 0] _ _ hbb
      have F0 : Hid (Blk v_3 b0 [.int .i64 h.fl, .int .i64 h.gp, .int .i64 h.ln, .int .i64 h.rf, .int .i64 h.sp, .int .i64 h.pu, .int .i64 h.br, .int .i64 h.dr, .int .i64 h.lv, .int .i64 h.dO, .int .i64 h.ld, .int .i64 h.qu]) := by rw [hw2]; exact F0.out.alloc _
      have F1 : Hid (Blk v_3 b1 [.int .i64 0, .int .i64 0, .int .i64 0, .int .i64 0, .int .i64 0, .int .i64 0, .int .i64 0]) := by rw [hw2]; exact F1.out.alloc _
      have T0 : Hid (Tri v_3 g x y z) := by rw [hw2]; exact T0.out.alloc _
      have T1 : Hid (Tri v_3 g' x' y' z') := by rw [hw2]; exact T1.out.alloc _
      have FB : Hid (Below w.heap.size w v_3) := by rw [hw2]; exact FB.out.alloc FB.out.size _
      rw [← hw2, ← hbb]
      clear hbb hw2
      have m0 := T0.out.c0
      have m1 := T0.out.c1
      have m2 := T0.out.c2
      refine hK.out _ _ (by (try dsimp only); first | exact ⟨m0, m1, m2⟩ | go_keep) (fun hHeld => ?_)
      clear hK K
      try simp only [Act.put, List.getElem_toArray, List.getElem_cons_succ, List.getElem_cons_zero, List.setIfInBounds_toArray, List.set_cons_zero, List.set_cons_succ]
      refine wpAnyH_ready (rs := [12]) (by kernel_rfl) (by simp) ?_
      refine (AllReadyH.cons rfl (fun K hK => ?_) AllReadyH.nil)
      have k0 := F2.out.c 0 _ rfl
      have k1 := F2.out.c 1 _ rfl
      have kf0 := F2.out.f 0 (by decide)
      have kf1 := F2.out.f 1 (by decide)
      go_simp
      obtain ⟨v_4, hw2⟩ : ∃ v_4, v_4 = putB v_3 fb 0 [.int .i64 kl, .int .i64 vl] := ⟨_, rfl⟩
      change K _ (putB v_3 fb 0 [.int .i64 kl, .int .i64 vl])
      rw [← hw2]
      clear k0 k1 kf0 kf1
      have F0 : Hid (Blk v_4 b0 [.int .i64 h.fl, .int .i64 h.gp, .int .i64 h.ln, .int .i64 h.rf, .int .i64 h.sp, .int .i64 h.pu, .int .i64 h.br, .int .i64 h.dr, .int .i64 h.lv, .int .i64 h.dO, .int .i64 h.ld, .int .i64 h.qu]) := by rw [hw2]; exact Blk.putB_other (by omega) _ 0 F0.out
      have F1 : Hid (Blk v_4 b1 [.int .i64 0, .int .i64 0, .int .i64 0, .int .i64 0, .int .i64 0, .int .i64 0, .int .i64 0]) := by rw [hw2]; exact Blk.putB_other (by omega) _ 0 F1.out
      have T0 : Hid (Tri v_4 g x y z) := by rw [hw2]; exact Tri.putB (by omega) _ 0 T0.out
      have T1 : Hid (Tri v_4 g' x' y' z') := by rw [hw2]; exact Tri.putB (by omega) _ 0 T1.out
      have FB : Hid (Below w.heap.size w v_4) := by rw [hw2]; exact below_putB FB.out lfb _ 0
      have F2 : Hid (Blk v_4 fb [.int .i64 kl, .int .i64 vl]) := by rw [hw2]; exact F2.out.put [.int .i64 kl, .int .i64 vl] rfl
      clear hw2
      have m0 := T0.out.c0
      have m1 := T0.out.c1
      have m2 := T0.out.c2
      refine hK.out _ _ (by (try dsimp only); first | exact ⟨m0, m1, m2⟩ | go_keep) (fun hHeld => ?_)
      clear hK K
      try simp only [Act.put, List.getElem_toArray, List.getElem_cons_succ, List.getElem_cons_zero, List.setIfInBounds_toArray, List.set_cons_zero, List.set_cons_succ]
      refine wpAnyH_done (by kernel_rfl) ?_ _
      go_wp2_with fail
      go_meet
      case rel => exact ⟨fb, rfl, lfb, F2.out, F0.out, F1.out, T0.out, T1.out, FB.out⟩
    · go_simp
      obtain ⟨fb, hbb⟩ : ∃ fb, fb = v_1.heap.size := ⟨_, rfl⟩
      obtain ⟨v_5, hw2⟩ : ∃ v_5, v_5 = v_1.alloc (.cells #[.int .i64 0, .int .i64 0] 40) := ⟨_, rfl⟩
      have lfb : w.heap.size ≤ fb := by rw [hbb]; exact FB.out.size
      have nfb_0 := F0.out.lt
      rw [← hbb] at nfb_0
      have nfb_1 := F1.out.lt
      rw [← hbb] at nfb_1
      have nfb_2 := T0.out.lt
      rw [← hbb] at nfb_2
      have nfb_3 := T1.out.lt
      rw [← hbb] at nfb_3
      have F2 : Hid (Blk v_5 fb [.int .i64 0, .int .i64 0]) := by rw [hw2]; exact Blk.at_ v_1 #[.int .i64 0, .int .i64 0] _ _ hbb
      have F0 : Hid (Blk v_5 b0 [.int .i64 h.fl, .int .i64 h.gp, .int .i64 h.ln, .int .i64 h.rf, .int .i64 h.sp, .int .i64 h.pu, .int .i64 h.br, .int .i64 h.dr, .int .i64 h.lv, .int .i64 h.dO, .int .i64 h.ld, .int .i64 h.qu]) := by rw [hw2]; exact F0.out.alloc _
      have F1 : Hid (Blk v_5 b1 [.int .i64 0, .int .i64 0, .int .i64 0, .int .i64 0, .int .i64 0, .int .i64 0, .int .i64 0]) := by rw [hw2]; exact F1.out.alloc _
      have T0 : Hid (Tri v_5 g x y z) := by rw [hw2]; exact T0.out.alloc _
      have T1 : Hid (Tri v_5 g' x' y' z') := by rw [hw2]; exact T1.out.alloc _
      have FB : Hid (Below w.heap.size w v_5) := by rw [hw2]; exact FB.out.alloc FB.out.size _
      rw [← hw2, ← hbb]
      clear hbb hw2
      have m0 := T0.out.c0
      have m1 := T0.out.c1
      have m2 := T0.out.c2
      refine hK.out _ _ (by (try dsimp only); first | exact ⟨m0, m1, m2⟩ | go_keep) (fun hHeld => ?_)
      clear hK K
      try simp only [Act.put, List.getElem_toArray, List.getElem_cons_succ, List.getElem_cons_zero, List.setIfInBounds_toArray, List.set_cons_zero, List.set_cons_succ]
      refine wpAnyH_ready (rs := [10]) (by kernel_rfl) (by simp) ?_
      refine (AllReadyH.cons rfl (fun K hK => ?_) AllReadyH.nil)
      go_simp
      refine (CL _).mono ?_
      rintro e v_6 ⟨rfl, hb⟩
      have F0 : Hid (Blk v_6 b0 [.int .i64 h.fl, .int .i64 h.gp, .int .i64 h.ln, .int .i64 h.rf, .int .i64 h.sp, .int .i64 h.pu, .int .i64 h.br, .int .i64 h.dr, .int .i64 h.lv, .int .i64 h.dO, .int .i64 h.ld, .int .i64 h.qu]) := F0.out.below hb F0.out.lt
      have F1 : Hid (Blk v_6 b1 [.int .i64 0, .int .i64 0, .int .i64 0, .int .i64 0, .int .i64 0, .int .i64 0, .int .i64 0]) := F1.out.below hb F1.out.lt
      have T0 : Hid (Tri v_6 g x y z) := T0.out.below hb T0.out.lt
      have T1 : Hid (Tri v_6 g' x' y' z') := T1.out.below hb T1.out.lt
      have FB : Hid (Below w.heap.size w v_6) := FB.out.trans (hb.mono FB.out.size)
      have F2 : Hid (Blk v_6 fb [.int .i64 0, .int .i64 0]) := F2.out.below hb F2.out.lt
      clear hb
      have m0 := T0.out.c0
      have m1 := T0.out.c1
      have m2 := T0.out.c2
      try dsimp only
      refine hK.out _ _ (by (try dsimp only); first | exact ⟨m0, m1, m2⟩ | go_keep) (fun hHeld => ?_)
      clear hK K
      try simp only [Act.put, List.getElem_toArray, List.getElem_cons_succ, List.getElem_cons_zero, List.setIfInBounds_toArray, List.set_cons_zero, List.set_cons_succ]
      refine wpAnyH_ready (rs := [12]) (by kernel_rfl) (by simp) ?_
      refine (AllReadyH.cons rfl (fun K hK => ?_) AllReadyH.nil)
      have k0 := F2.out.c 0 _ rfl
      have k1 := F2.out.c 1 _ rfl
      have kf0 := F2.out.f 0 (by decide)
      have kf1 := F2.out.f 1 (by decide)
      go_simp
      obtain ⟨v_7, hw2⟩ : ∃ v_7, v_7 = putB v_6 fb 0 [.int .i64 kl, .int .i64 vl] := ⟨_, rfl⟩
      change K _ (putB v_6 fb 0 [.int .i64 kl, .int .i64 vl])
      rw [← hw2]
      clear k0 k1 kf0 kf1
      have F0 : Hid (Blk v_7 b0 [.int .i64 h.fl, .int .i64 h.gp, .int .i64 h.ln, .int .i64 h.rf, .int .i64 h.sp, .int .i64 h.pu, .int .i64 h.br, .int .i64 h.dr, .int .i64 h.lv, .int .i64 h.dO, .int .i64 h.ld, .int .i64 h.qu]) := by rw [hw2]; exact Blk.putB_other (by omega) _ 0 F0.out
      have F1 : Hid (Blk v_7 b1 [.int .i64 0, .int .i64 0, .int .i64 0, .int .i64 0, .int .i64 0, .int .i64 0, .int .i64 0]) := by rw [hw2]; exact Blk.putB_other (by omega) _ 0 F1.out
      have T0 : Hid (Tri v_7 g x y z) := by rw [hw2]; exact Tri.putB (by omega) _ 0 T0.out
      have T1 : Hid (Tri v_7 g' x' y' z') := by rw [hw2]; exact Tri.putB (by omega) _ 0 T1.out
      have FB : Hid (Below w.heap.size w v_7) := by rw [hw2]; exact below_putB FB.out lfb _ 0
      have F2 : Hid (Blk v_7 fb [.int .i64 kl, .int .i64 vl]) := by rw [hw2]; exact F2.out.put [.int .i64 kl, .int .i64 vl] rfl
      clear hw2
      have m0 := T0.out.c0
      have m1 := T0.out.c1
      have m2 := T0.out.c2
      refine hK.out _ _ (by (try dsimp only); first | exact ⟨m0, m1, m2⟩ | go_keep) (fun hHeld => ?_)
      clear hK K
      try simp only [Act.put, List.getElem_toArray, List.getElem_cons_succ, List.getElem_cons_zero, List.setIfInBounds_toArray, List.set_cons_zero, List.set_cons_succ]
      refine wpAnyH_done (by kernel_rfl) ?_ _
      go_wp2_with fail
      go_meet
      case rel => exact ⟨fb, rfl, lfb, F2.out, F0.out, F1.out, T0.out, T1.out, FB.out⟩
  case rest =>
  obtain ⟨b2, rfl, leb2, h_F2, h_F0, h_F1, h_T0, h_T1, hB⟩ := hcut
  have F0 : Hid (Blk wc b0 [.int .i64 h.fl, .int .i64 h.gp, .int .i64 h.ln, .int .i64 h.rf, .int .i64 h.sp, .int .i64 h.pu, .int .i64 h.br, .int .i64 h.dr, .int .i64 h.lv, .int .i64 h.dO, .int .i64 h.ld, .int .i64 h.qu]) := h_F0
  have F1 : Hid (Blk wc b1 [.int .i64 0, .int .i64 0, .int .i64 0, .int .i64 0, .int .i64 0, .int .i64 0, .int .i64 0]) := h_F1
  have F2 : Hid (Blk wc b2 [.int .i64 kl, .int .i64 vl]) := h_F2
  have T0 : Hid (Tri wc g x y z) := h_T0
  have T1 : Hid (Tri wc g' x' y' z') := h_T1
  have FB : Hid (Below w.heap.size w wc) := hB
  clear h_F0 h_F1 h_F2 h_T0 h_T1 hB
  obtain ⟨v1n, hWn⟩ : ∃ q, q = wc := ⟨_, rfl⟩
  rw [← hWn] at F0 F1 F2 T0 T1 FB ⊢
  clear hWn
  go_upto_region 7 with fail
  go_cut [11] from 40 to 72 (fun p wx => ∃ b3, p = .pointer (some ⟨b3, 0, none⟩) ∧ w.heap.size ≤ b3 ∧ Blk wx b3 [.int .i64 ku, .int .i64 vu] ∧ Blk wx b0 [.int .i64 h.fl, .int .i64 h.gp, .int .i64 h.ln, .int .i64 h.rf, .int .i64 h.sp, .int .i64 h.pu, .int .i64 h.br, .int .i64 h.dr, .int .i64 h.lv, .int .i64 h.dO, .int .i64 h.ld, .int .i64 h.qu] ∧ Blk wx b1 [.int .i64 0, .int .i64 0, .int .i64 0, .int .i64 0, .int .i64 0, .int .i64 0, .int .i64 0] ∧ Blk wx b2 [.int .i64 kl, .int .i64 vl] ∧ Tri wx g x y z ∧ Tri wx g' x' y' z' ∧ Below w.heap.size w wx)
  case first =>
    have F0 : Hid (Blk v1n.drew b0 [.int .i64 h.fl, .int .i64 h.gp, .int .i64 h.ln, .int .i64 h.rf, .int .i64 h.sp, .int .i64 h.pu, .int .i64 h.br, .int .i64 h.dr, .int .i64 h.lv, .int .i64 h.dO, .int .i64 h.ld, .int .i64 h.qu]) := F0.out.below (Below.refl _ _).drew F0.out.lt
    have F1 : Hid (Blk v1n.drew b1 [.int .i64 0, .int .i64 0, .int .i64 0, .int .i64 0, .int .i64 0, .int .i64 0, .int .i64 0]) := F1.out.below (Below.refl _ _).drew F1.out.lt
    have F2 : Hid (Blk v1n.drew b2 [.int .i64 kl, .int .i64 vl]) := F2.out.below (Below.refl _ _).drew F2.out.lt
    have T0 : Hid (Tri v1n.drew g x y z) := T0.out.below (Below.refl _ _).drew T0.out.lt
    have T1 : Hid (Tri v1n.drew g' x' y' z') := T1.out.below (Below.refl _ _).drew T1.out.lt
    have FB : Hid (Below w.heap.size w v1n.drew) := FB.out.drew
    have m0 := T1.out.c0
    have m1 := T1.out.c1
    have m2 := T1.out.c2
    refine wp_region_held_drew (S := (fun w'' => w''.cell? ⟨g', 0, none⟩ = some (.int .i64 x') ∧ w''.cell? ⟨g', 1, none⟩ = some (.int .i64 y') ∧ w''.cell? ⟨g', 2, none⟩ = some (.int .i64 z'))) (by kernel_rfl) (by (try dsimp only); first | exact ⟨m0, m1, m2⟩ | go_keep) (fun hHeld => ?_)
    obtain ⟨v_8, hw1⟩ : ∃ v_8, v_8 = v1n.drew := ⟨_, rfl⟩
    have F0 : Hid (Blk v_8 b0 [.int .i64 h.fl, .int .i64 h.gp, .int .i64 h.ln, .int .i64 h.rf, .int .i64 h.sp, .int .i64 h.pu, .int .i64 h.br, .int .i64 h.dr, .int .i64 h.lv, .int .i64 h.dO, .int .i64 h.ld, .int .i64 h.qu]) := by rw [hw1]; exact F0.out
    have F1 : Hid (Blk v_8 b1 [.int .i64 0, .int .i64 0, .int .i64 0, .int .i64 0, .int .i64 0, .int .i64 0, .int .i64 0]) := by rw [hw1]; exact F1.out
    have F2 : Hid (Blk v_8 b2 [.int .i64 kl, .int .i64 vl]) := by rw [hw1]; exact F2.out
    have T0 : Hid (Tri v_8 g x y z) := by rw [hw1]; exact T0.out
    have T1 : Hid (Tri v_8 g' x' y' z') := by rw [hw1]; exact T1.out
    have FB : Hid (Below w.heap.size w v_8) := by rw [hw1]; exact FB.out
    rw [← hw1] at hHeld ⊢
    clear hw1
    have m0 := T1.out.c0
    have m1 := T1.out.c1
    have m2 := T1.out.c2
    refine tkz 0 rfl ?_
    refine tkz 1 rfl ?_
    refine tkz 2 rfl ?_
    refine tkz 3 rfl ?_
    refine tkz 4 rfl ?_
    refine tkz 5 rfl ?_
    refine tkz 6 rfl ?_
    refine tkz 7 rfl ?_
    refine tkz 8 rfl ?_
    refine tkz 9 rfl ?_
    refine wpAnyH_ready (rs := [10, 11]) (by kernel_rfl) (by simp) ?_
    refine (AllReadyH.cons rfl (fun K hK => ?_) (AllReadyH.cons rfl (fun K hK => ?_) AllReadyH.nil))
    · go_simp
      refine (CU _).mono ?_
      rintro e v_9 ⟨rfl, hb⟩
      have F0 : Hid (Blk v_9 b0 [.int .i64 h.fl, .int .i64 h.gp, .int .i64 h.ln, .int .i64 h.rf, .int .i64 h.sp, .int .i64 h.pu, .int .i64 h.br, .int .i64 h.dr, .int .i64 h.lv, .int .i64 h.dO, .int .i64 h.ld, .int .i64 h.qu]) := F0.out.below hb F0.out.lt
      have F1 : Hid (Blk v_9 b1 [.int .i64 0, .int .i64 0, .int .i64 0, .int .i64 0, .int .i64 0, .int .i64 0, .int .i64 0]) := F1.out.below hb F1.out.lt
      have F2 : Hid (Blk v_9 b2 [.int .i64 kl, .int .i64 vl]) := F2.out.below hb F2.out.lt
      have T0 : Hid (Tri v_9 g x y z) := T0.out.below hb T0.out.lt
      have T1 : Hid (Tri v_9 g' x' y' z') := T1.out.below hb T1.out.lt
      have FB : Hid (Below w.heap.size w v_9) := FB.out.trans (hb.mono FB.out.size)
      clear hb
      have m0 := T1.out.c0
      have m1 := T1.out.c1
      have m2 := T1.out.c2
      try dsimp only
      refine hK.out _ _ (by (try dsimp only); first | exact ⟨m0, m1, m2⟩ | go_keep) (fun hHeld => ?_)
      clear hK K
      try simp only [Act.put, List.getElem_toArray, List.getElem_cons_succ, List.getElem_cons_zero, List.setIfInBounds_toArray, List.set_cons_zero, List.set_cons_succ]
      refine wpAnyH_ready (rs := [11]) (by kernel_rfl) (by simp) ?_
      refine (AllReadyH.cons rfl (fun K hK => ?_) AllReadyH.nil)
      go_simp
      obtain ⟨fb, hbb⟩ : ∃ fb, fb = v_9.heap.size := ⟨_, rfl⟩
      obtain ⟨v_10, hw2⟩ : ∃ v_10, v_10 = v_9.alloc (.cells #[.int .i64 0, .int .i64 0] 40) := ⟨_, rfl⟩
      have lfb : w.heap.size ≤ fb := by rw [hbb]; exact FB.out.size
      have nfb_0 := F0.out.lt
      rw [← hbb] at nfb_0
      have nfb_1 := F1.out.lt
      rw [← hbb] at nfb_1
      have nfb_2 := F2.out.lt
      rw [← hbb] at nfb_2
      have nfb_3 := T0.out.lt
      rw [← hbb] at nfb_3
      have nfb_4 := T1.out.lt
      rw [← hbb] at nfb_4
      have F3 : Hid (Blk v_10 fb [.int .i64 0, .int .i64 0]) := by rw [hw2]; exact Blk.at_ v_9 #[.int .i64 0, .int .i64 0] _ _ hbb
      have F0 : Hid (Blk v_10 b0 [.int .i64 h.fl, .int .i64 h.gp, .int .i64 h.ln, .int .i64 h.rf, .int .i64 h.sp, .int .i64 h.pu, .int .i64 h.br, .int .i64 h.dr, .int .i64 h.lv, .int .i64 h.dO, .int .i64 h.ld, .int .i64 h.qu]) := by rw [hw2]; exact F0.out.alloc _
      have F1 : Hid (Blk v_10 b1 [.int .i64 0, .int .i64 0, .int .i64 0, .int .i64 0, .int .i64 0, .int .i64 0, .int .i64 0]) := by rw [hw2]; exact F1.out.alloc _
      have F2 : Hid (Blk v_10 b2 [.int .i64 kl, .int .i64 vl]) := by rw [hw2]; exact F2.out.alloc _
      have T0 : Hid (Tri v_10 g x y z) := by rw [hw2]; exact T0.out.alloc _
      have T1 : Hid (Tri v_10 g' x' y' z') := by rw [hw2]; exact T1.out.alloc _
      have FB : Hid (Below w.heap.size w v_10) := by rw [hw2]; exact FB.out.alloc FB.out.size _
      rw [← hw2, ← hbb]
      clear hbb hw2
      have m0 := T1.out.c0
      have m1 := T1.out.c1
      have m2 := T1.out.c2
      refine hK.out _ _ (by (try dsimp only); first | exact ⟨m0, m1, m2⟩ | go_keep) (fun hHeld => ?_)
      clear hK K
      try simp only [Act.put, List.getElem_toArray, List.getElem_cons_succ, List.getElem_cons_zero, List.setIfInBounds_toArray, List.set_cons_zero, List.set_cons_succ]
      refine wpAnyH_ready (rs := [12]) (by kernel_rfl) (by simp) ?_
      refine (AllReadyH.cons rfl (fun K hK => ?_) AllReadyH.nil)
      have k0 := F3.out.c 0 _ rfl
      have k1 := F3.out.c 1 _ rfl
      have kf0 := F3.out.f 0 (by decide)
      have kf1 := F3.out.f 1 (by decide)
      go_simp
      obtain ⟨v_11, hw2⟩ : ∃ v_11, v_11 = putB v_10 fb 0 [.int .i64 ku, .int .i64 vu] := ⟨_, rfl⟩
      change K _ (putB v_10 fb 0 [.int .i64 ku, .int .i64 vu])
      rw [← hw2]
      clear k0 k1 kf0 kf1
      have F0 : Hid (Blk v_11 b0 [.int .i64 h.fl, .int .i64 h.gp, .int .i64 h.ln, .int .i64 h.rf, .int .i64 h.sp, .int .i64 h.pu, .int .i64 h.br, .int .i64 h.dr, .int .i64 h.lv, .int .i64 h.dO, .int .i64 h.ld, .int .i64 h.qu]) := by rw [hw2]; exact Blk.putB_other (by omega) _ 0 F0.out
      have F1 : Hid (Blk v_11 b1 [.int .i64 0, .int .i64 0, .int .i64 0, .int .i64 0, .int .i64 0, .int .i64 0, .int .i64 0]) := by rw [hw2]; exact Blk.putB_other (by omega) _ 0 F1.out
      have F2 : Hid (Blk v_11 b2 [.int .i64 kl, .int .i64 vl]) := by rw [hw2]; exact Blk.putB_other (by omega) _ 0 F2.out
      have T0 : Hid (Tri v_11 g x y z) := by rw [hw2]; exact Tri.putB (by omega) _ 0 T0.out
      have T1 : Hid (Tri v_11 g' x' y' z') := by rw [hw2]; exact Tri.putB (by omega) _ 0 T1.out
      have FB : Hid (Below w.heap.size w v_11) := by rw [hw2]; exact below_putB FB.out lfb _ 0
      have F3 : Hid (Blk v_11 fb [.int .i64 ku, .int .i64 vu]) := by rw [hw2]; exact F3.out.put [.int .i64 ku, .int .i64 vu] rfl
      clear hw2
      have m0 := T1.out.c0
      have m1 := T1.out.c1
      have m2 := T1.out.c2
      refine hK.out _ _ (by (try dsimp only); first | exact ⟨m0, m1, m2⟩ | go_keep) (fun hHeld => ?_)
      clear hK K
      try simp only [Act.put, List.getElem_toArray, List.getElem_cons_succ, List.getElem_cons_zero, List.setIfInBounds_toArray, List.set_cons_zero, List.set_cons_succ]
      refine wpAnyH_done (by kernel_rfl) ?_ _
      go_wp2_with fail
      go_meet
      case rel => exact ⟨fb, rfl, lfb, F3.out, F0.out, F1.out, F2.out, T0.out, T1.out, FB.out⟩
    · go_simp
      obtain ⟨fb, hbb⟩ : ∃ fb, fb = v_8.heap.size := ⟨_, rfl⟩
      obtain ⟨v_12, hw2⟩ : ∃ v_12, v_12 = v_8.alloc (.cells #[.int .i64 0, .int .i64 0] 40) := ⟨_, rfl⟩
      have lfb : w.heap.size ≤ fb := by rw [hbb]; exact FB.out.size
      have nfb_0 := F0.out.lt
      rw [← hbb] at nfb_0
      have nfb_1 := F1.out.lt
      rw [← hbb] at nfb_1
      have nfb_2 := F2.out.lt
      rw [← hbb] at nfb_2
      have nfb_3 := T0.out.lt
      rw [← hbb] at nfb_3
      have nfb_4 := T1.out.lt
      rw [← hbb] at nfb_4
      have F3 : Hid (Blk v_12 fb [.int .i64 0, .int .i64 0]) := by rw [hw2]; exact Blk.at_ v_8 #[.int .i64 0, .int .i64 0] _ _ hbb
      have F0 : Hid (Blk v_12 b0 [.int .i64 h.fl, .int .i64 h.gp, .int .i64 h.ln, .int .i64 h.rf, .int .i64 h.sp, .int .i64 h.pu, .int .i64 h.br, .int .i64 h.dr, .int .i64 h.lv, .int .i64 h.dO, .int .i64 h.ld, .int .i64 h.qu]) := by rw [hw2]; exact F0.out.alloc _
      have F1 : Hid (Blk v_12 b1 [.int .i64 0, .int .i64 0, .int .i64 0, .int .i64 0, .int .i64 0, .int .i64 0, .int .i64 0]) := by rw [hw2]; exact F1.out.alloc _
      have F2 : Hid (Blk v_12 b2 [.int .i64 kl, .int .i64 vl]) := by rw [hw2]; exact F2.out.alloc _
      have T0 : Hid (Tri v_12 g x y z) := by rw [hw2]; exact T0.out.alloc _
      have T1 : Hid (Tri v_12 g' x' y' z') := by rw [hw2]; exact T1.out.alloc _
      have FB : Hid (Below w.heap.size w v_12) := by rw [hw2]; exact FB.out.alloc FB.out.size _
      rw [← hw2, ← hbb]
      clear hbb hw2
      have m0 := T1.out.c0
      have m1 := T1.out.c1
      have m2 := T1.out.c2
      refine hK.out _ _ (by (try dsimp only); first | exact ⟨m0, m1, m2⟩ | go_keep) (fun hHeld => ?_)
      clear hK K
      try simp only [Act.put, List.getElem_toArray, List.getElem_cons_succ, List.getElem_cons_zero, List.setIfInBounds_toArray, List.set_cons_zero, List.set_cons_succ]
      refine wpAnyH_ready (rs := [10]) (by kernel_rfl) (by simp) ?_
      refine (AllReadyH.cons rfl (fun K hK => ?_) AllReadyH.nil)
      go_simp
      refine (CU _).mono ?_
      rintro e v_13 ⟨rfl, hb⟩
      have F0 : Hid (Blk v_13 b0 [.int .i64 h.fl, .int .i64 h.gp, .int .i64 h.ln, .int .i64 h.rf, .int .i64 h.sp, .int .i64 h.pu, .int .i64 h.br, .int .i64 h.dr, .int .i64 h.lv, .int .i64 h.dO, .int .i64 h.ld, .int .i64 h.qu]) := F0.out.below hb F0.out.lt
      have F1 : Hid (Blk v_13 b1 [.int .i64 0, .int .i64 0, .int .i64 0, .int .i64 0, .int .i64 0, .int .i64 0, .int .i64 0]) := F1.out.below hb F1.out.lt
      have F2 : Hid (Blk v_13 b2 [.int .i64 kl, .int .i64 vl]) := F2.out.below hb F2.out.lt
      have T0 : Hid (Tri v_13 g x y z) := T0.out.below hb T0.out.lt
      have T1 : Hid (Tri v_13 g' x' y' z') := T1.out.below hb T1.out.lt
      have FB : Hid (Below w.heap.size w v_13) := FB.out.trans (hb.mono FB.out.size)
      have F3 : Hid (Blk v_13 fb [.int .i64 0, .int .i64 0]) := F3.out.below hb F3.out.lt
      clear hb
      have m0 := T1.out.c0
      have m1 := T1.out.c1
      have m2 := T1.out.c2
      try dsimp only
      refine hK.out _ _ (by (try dsimp only); first | exact ⟨m0, m1, m2⟩ | go_keep) (fun hHeld => ?_)
      clear hK K
      try simp only [Act.put, List.getElem_toArray, List.getElem_cons_succ, List.getElem_cons_zero, List.setIfInBounds_toArray, List.set_cons_zero, List.set_cons_succ]
      refine wpAnyH_ready (rs := [12]) (by kernel_rfl) (by simp) ?_
      refine (AllReadyH.cons rfl (fun K hK => ?_) AllReadyH.nil)
      have k0 := F3.out.c 0 _ rfl
      have k1 := F3.out.c 1 _ rfl
      have kf0 := F3.out.f 0 (by decide)
      have kf1 := F3.out.f 1 (by decide)
      go_simp
      obtain ⟨v_14, hw2⟩ : ∃ v_14, v_14 = putB v_13 fb 0 [.int .i64 ku, .int .i64 vu] := ⟨_, rfl⟩
      change K _ (putB v_13 fb 0 [.int .i64 ku, .int .i64 vu])
      rw [← hw2]
      clear k0 k1 kf0 kf1
      have F0 : Hid (Blk v_14 b0 [.int .i64 h.fl, .int .i64 h.gp, .int .i64 h.ln, .int .i64 h.rf, .int .i64 h.sp, .int .i64 h.pu, .int .i64 h.br, .int .i64 h.dr, .int .i64 h.lv, .int .i64 h.dO, .int .i64 h.ld, .int .i64 h.qu]) := by rw [hw2]; exact Blk.putB_other (by omega) _ 0 F0.out
      have F1 : Hid (Blk v_14 b1 [.int .i64 0, .int .i64 0, .int .i64 0, .int .i64 0, .int .i64 0, .int .i64 0, .int .i64 0]) := by rw [hw2]; exact Blk.putB_other (by omega) _ 0 F1.out
      have F2 : Hid (Blk v_14 b2 [.int .i64 kl, .int .i64 vl]) := by rw [hw2]; exact Blk.putB_other (by omega) _ 0 F2.out
      have T0 : Hid (Tri v_14 g x y z) := by rw [hw2]; exact Tri.putB (by omega) _ 0 T0.out
      have T1 : Hid (Tri v_14 g' x' y' z') := by rw [hw2]; exact Tri.putB (by omega) _ 0 T1.out
      have FB : Hid (Below w.heap.size w v_14) := by rw [hw2]; exact below_putB FB.out lfb _ 0
      have F3 : Hid (Blk v_14 fb [.int .i64 ku, .int .i64 vu]) := by rw [hw2]; exact F3.out.put [.int .i64 ku, .int .i64 vu] rfl
      clear hw2
      have m0 := T1.out.c0
      have m1 := T1.out.c1
      have m2 := T1.out.c2
      refine hK.out _ _ (by (try dsimp only); first | exact ⟨m0, m1, m2⟩ | go_keep) (fun hHeld => ?_)
      clear hK K
      try simp only [Act.put, List.getElem_toArray, List.getElem_cons_succ, List.getElem_cons_zero, List.setIfInBounds_toArray, List.set_cons_zero, List.set_cons_succ]
      refine wpAnyH_done (by kernel_rfl) ?_ _
      go_wp2_with fail
      go_meet
      case rel => exact ⟨fb, rfl, lfb, F3.out, F0.out, F1.out, F2.out, T0.out, T1.out, FB.out⟩
  case rest =>
  obtain ⟨b3, rfl, leb3, h_F3, h_F0, h_F1, h_F2, h_T0, h_T1, hB⟩ := hcut
  have F0 : Hid (Blk wc b0 [.int .i64 h.fl, .int .i64 h.gp, .int .i64 h.ln, .int .i64 h.rf, .int .i64 h.sp, .int .i64 h.pu, .int .i64 h.br, .int .i64 h.dr, .int .i64 h.lv, .int .i64 h.dO, .int .i64 h.ld, .int .i64 h.qu]) := h_F0
  have F1 : Hid (Blk wc b1 [.int .i64 0, .int .i64 0, .int .i64 0, .int .i64 0, .int .i64 0, .int .i64 0, .int .i64 0]) := h_F1
  have F2 : Hid (Blk wc b2 [.int .i64 kl, .int .i64 vl]) := h_F2
  have F3 : Hid (Blk wc b3 [.int .i64 ku, .int .i64 vu]) := h_F3
  have T0 : Hid (Tri wc g x y z) := h_T0
  have T1 : Hid (Tri wc g' x' y' z') := h_T1
  have FB : Hid (Below w.heap.size w wc) := hB
  clear h_F0 h_F1 h_F2 h_F3 h_T0 h_T1 hB
  obtain ⟨v1nn, hWn⟩ : ∃ q, q = wc := ⟨_, rfl⟩
  rw [← hWn] at F0 F1 F2 F3 T0 T1 FB ⊢
  clear hWn
  have F2c0 := F2.out.c 0 _ rfl
  have F2c1 := F2.out.c 1 _ rfl
  have F3c0 := F3.out.c 0 _ rfl
  have F3c1 := F3.out.c 1 _ rfl
  go_upto_region 9 with (refine store_new [.int .i64 vl, .int .i64 0, .int .i64 0, .int .i64 vu, .int .i64 0, .int .i64 0] 28 _ _ (by kernel_rfl) (by kernel_rfl) (by kernel_rfl) rfl rfl rfl rfl ?_)
  have FB0 := FB
  obtain ⟨b4, hbb⟩ : ∃ b4, b4 = v1nn.heap.size := ⟨_, rfl⟩
  obtain ⟨v4, hw2⟩ : ∃ v4, v4 = v1nn.alloc (.cells #[.int .i64 vl, .int .i64 0, .int .i64 0, .int .i64 vu, .int .i64 0, .int .i64 0] 28) := ⟨_, rfl⟩
  have F0 : Hid (Blk v4 b0 [.int .i64 h.fl, .int .i64 h.gp, .int .i64 h.ln, .int .i64 h.rf, .int .i64 h.sp, .int .i64 h.pu, .int .i64 h.br, .int .i64 h.dr, .int .i64 h.lv, .int .i64 h.dO, .int .i64 h.ld, .int .i64 h.qu]) := by rw [hw2]; exact F0.out.alloc _
  have F1 : Hid (Blk v4 b1 [.int .i64 0, .int .i64 0, .int .i64 0, .int .i64 0, .int .i64 0, .int .i64 0, .int .i64 0]) := by rw [hw2]; exact F1.out.alloc _
  have F2 : Hid (Blk v4 b2 [.int .i64 kl, .int .i64 vl]) := by rw [hw2]; exact F2.out.alloc _
  have F3 : Hid (Blk v4 b3 [.int .i64 ku, .int .i64 vu]) := by rw [hw2]; exact F3.out.alloc _
  have T0 : Hid (Tri v4 g x y z) := by rw [hw2]; exact T0.out.below ((Below.refl _ _).alloc (Nat.le_refl _) _) T0.out.lt
  have T1 : Hid (Tri v4 g' x' y' z') := by rw [hw2]; exact T1.out.below ((Below.refl _ _).alloc (Nat.le_refl _) _) T1.out.lt
  have F4 : Hid (Blk v4 b4 [.int .i64 vl, .int .i64 0, .int .i64 0, .int .i64 vu, .int .i64 0, .int .i64 0]) := by rw [hw2]; exact Blk.at_ v1nn #[.int .i64 vl, .int .i64 0, .int .i64 0, .int .i64 vu, .int .i64 0, .int .i64 0] _ _ hbb
  have FB : Hid (Below w.heap.size w v4) := by rw [hw2]; exact FB.out.alloc FB.out.size _
  have leb4 : w.heap.size ≤ b4 := by rw [hbb]; exact FB0.out.size
  rw [← hw2, ← hbb]
  clear hbb hw2 FB0
  simp only [Act.put]
  obtain ⟨kk, hkk⟩ : ∃ kk, (if kl = 0 then (if ku = 0 then ks else ku) else kl) = kk := ⟨_, rfl⟩
  have CO : ∀ (b : Nat) (W : World), W.cell? ⟨b, 0, none⟩ = some (.int .i64 kl) → W.cell? ⟨b, 1, none⟩ = some (.int .i64 ku) → W.cell? ⟨b, 2, none⟩ = some (.int .i64 ks) → Calls Try.prog 15 #[.slice (some ⟨b, 0, none⟩) 3 3] W fun e w' => e = .returned (.int .i64 kk) ∧ w' = W := fun b W c0 c1 c2 => by
    have q := or_three kl ku ks b W c0 c1 c2
    rw [hkk] at q
    exact q
  have EK : Hid (kk = K) := hkk.symm.trans HKK.out
  clear hkk
  go_cut [13] from 58 to 72 (fun p wx => p = .int .i64 kk ∧ Blk wx b1 [.int .i64 0, .int .i64 0, .int .i64 0, .int .i64 0, .int .i64 0, .int .i64 0, .int .i64 0] ∧ Blk wx b4 [.int .i64 vl, .int .i64 0, .int .i64 0, .int .i64 vu, .int .i64 0, .int .i64 0] ∧ Below w.heap.size w wx)
  case first =>
    have F0 : Hid (Blk v4.drew b0 [.int .i64 h.fl, .int .i64 h.gp, .int .i64 h.ln, .int .i64 h.rf, .int .i64 h.sp, .int .i64 h.pu, .int .i64 h.br, .int .i64 h.dr, .int .i64 h.lv, .int .i64 h.dO, .int .i64 h.ld, .int .i64 h.qu]) := F0.out.below (Below.refl _ _).drew F0.out.lt
    have F1 : Hid (Blk v4.drew b1 [.int .i64 0, .int .i64 0, .int .i64 0, .int .i64 0, .int .i64 0, .int .i64 0, .int .i64 0]) := F1.out.below (Below.refl _ _).drew F1.out.lt
    have F2 : Hid (Blk v4.drew b2 [.int .i64 kl, .int .i64 vl]) := F2.out.below (Below.refl _ _).drew F2.out.lt
    have F3 : Hid (Blk v4.drew b3 [.int .i64 ku, .int .i64 vu]) := F3.out.below (Below.refl _ _).drew F3.out.lt
    have F4 : Hid (Blk v4.drew b4 [.int .i64 vl, .int .i64 0, .int .i64 0, .int .i64 vu, .int .i64 0, .int .i64 0]) := F4.out.below (Below.refl _ _).drew F4.out.lt
    have FB : Hid (Below w.heap.size w v4.drew) := FB.out.drew
    refine wp_region_held_drew (S := (fun w'' => Blk w'' b0 ([.int .i64 h.fl, .int .i64 h.gp, .int .i64 h.ln, .int .i64 h.rf, .int .i64 h.sp, .int .i64 h.pu, .int .i64 h.br, .int .i64 h.dr, .int .i64 h.lv, .int .i64 h.dO, .int .i64 h.ld, .int .i64 h.qu]) ∧ Blk w'' b2 ([.int .i64 kl, .int .i64 vl]) ∧ Blk w'' b3 ([.int .i64 ku, .int .i64 vu]) ∧ Blk w'' b4 ([.int .i64 vl, .int .i64 0, .int .i64 0, .int .i64 vu, .int .i64 0, .int .i64 0]))) (by kernel_rfl) (by (try dsimp only); first | exact ⟨F0.out, F2.out, F3.out, F4.out⟩ | go_keep) (fun hHeld => ?_)
    obtain ⟨v_15, hw1⟩ : ∃ v_15, v_15 = v4.drew := ⟨_, rfl⟩
    have F0 : Hid (Blk v_15 b0 [.int .i64 h.fl, .int .i64 h.gp, .int .i64 h.ln, .int .i64 h.rf, .int .i64 h.sp, .int .i64 h.pu, .int .i64 h.br, .int .i64 h.dr, .int .i64 h.lv, .int .i64 h.dO, .int .i64 h.ld, .int .i64 h.qu]) := by rw [hw1]; exact F0.out
    have F1 : Hid (Blk v_15 b1 [.int .i64 0, .int .i64 0, .int .i64 0, .int .i64 0, .int .i64 0, .int .i64 0, .int .i64 0]) := by rw [hw1]; exact F1.out
    have F2 : Hid (Blk v_15 b2 [.int .i64 kl, .int .i64 vl]) := by rw [hw1]; exact F2.out
    have F3 : Hid (Blk v_15 b3 [.int .i64 ku, .int .i64 vu]) := by rw [hw1]; exact F3.out
    have F4 : Hid (Blk v_15 b4 [.int .i64 vl, .int .i64 0, .int .i64 0, .int .i64 vu, .int .i64 0, .int .i64 0]) := by rw [hw1]; exact F4.out
    have FB : Hid (Below w.heap.size w v_15) := by rw [hw1]; exact FB.out
    rw [← hw1] at hHeld ⊢
    clear hw1
    refine tkz 0 rfl ?_
    refine tkz 1 rfl ?_ (hy := Or.inl ⟨by kernel_rfl, by (intro wx hSw; have hq1_0 := hSw.2.1.c 0 _ rfl; (try dsimp only at hSw); go_simp <;> with_reducible rfl)⟩)
    refine tkz 2 rfl ?_
    refine tkz 3 rfl ?_ (hy := Or.inl ⟨by kernel_rfl, by (intro wx hSw; have hq2_0 := hSw.2.2.1.c 0 _ rfl; (try dsimp only at hSw); go_simp <;> with_reducible rfl)⟩)
    refine tkz 4 rfl ?_ (hy := Or.inl ⟨by kernel_rfl, fun wx hSw => exec_load_blk 32 _ Try.underlying32 (by kernel_rfl) rfl rfl hSw.1⟩)
    refine tkz 5 rfl ?_ (hy := Or.inl ⟨by kernel_rfl, fun wx hSw => exec_load_blk 28 _ Try.underlying28 (by kernel_rfl) rfl rfl hSw.2.2.2⟩)
    refine wpAnyH_ready (rs := [6]) (by kernel_rfl) (by simp) ?_
    refine (AllReadyH.cons rfl (fun K hK => ?_) AllReadyH.nil)
    go_simp
    refine (CF _).mono ?_
    rintro e v_16 ⟨rfl, hb⟩
    have F0 : Hid (Blk v_16 b0 [.int .i64 h.fl, .int .i64 h.gp, .int .i64 h.ln, .int .i64 h.rf, .int .i64 h.sp, .int .i64 h.pu, .int .i64 h.br, .int .i64 h.dr, .int .i64 h.lv, .int .i64 h.dO, .int .i64 h.ld, .int .i64 h.qu]) := F0.out.below hb F0.out.lt
    have F1 : Hid (Blk v_16 b1 [.int .i64 0, .int .i64 0, .int .i64 0, .int .i64 0, .int .i64 0, .int .i64 0, .int .i64 0]) := F1.out.below hb F1.out.lt
    have F2 : Hid (Blk v_16 b2 [.int .i64 kl, .int .i64 vl]) := F2.out.below hb F2.out.lt
    have F3 : Hid (Blk v_16 b3 [.int .i64 ku, .int .i64 vu]) := F3.out.below hb F3.out.lt
    have F4 : Hid (Blk v_16 b4 [.int .i64 vl, .int .i64 0, .int .i64 0, .int .i64 vu, .int .i64 0, .int .i64 0]) := F4.out.below hb F4.out.lt
    have FB : Hid (Below w.heap.size w v_16) := FB.out.trans (hb.mono FB.out.size)
    clear hb
    try dsimp only
    refine hK.out _ _ (by (try dsimp only); first | exact ⟨F0.out, F2.out, F3.out, F4.out⟩ | go_keep) (fun hHeld => ?_)
    clear hK K
    try simp only [Act.put, List.getElem_toArray, List.getElem_cons_succ, List.getElem_cons_zero, List.setIfInBounds_toArray, List.set_cons_zero, List.set_cons_succ]
    refine wpAnyH_ready (rs := [7]) (by kernel_rfl) (by simp) ?_
    refine (AllReadyH.cons rfl (fun K hK => ?_) AllReadyH.nil)
    go_simp
    obtain ⟨lb0, hbb⟩ : ∃ lb0, lb0 = v_16.heap.size := ⟨_, rfl⟩
    obtain ⟨v_17, hw2⟩ : ∃ v_17, v_17 = v_16.alloc (.cells #[.int .i64 kl, .int .i64 ku, .int .i64 ks] 2) := ⟨_, rfl⟩
    have nlb0_0 := F0.out.lt
    rw [← hbb] at nlb0_0
    have nlb0_1 := F1.out.lt
    rw [← hbb] at nlb0_1
    have nlb0_2 := F2.out.lt
    rw [← hbb] at nlb0_2
    have nlb0_3 := F3.out.lt
    rw [← hbb] at nlb0_3
    have nlb0_4 := F4.out.lt
    rw [← hbb] at nlb0_4
    have FL0 : Hid (Blk v_17 lb0 [.int .i64 kl, .int .i64 ku, .int .i64 ks]) := by rw [hw2]; exact Blk.at_ v_16 #[.int .i64 kl, .int .i64 ku, .int .i64 ks] _ _ hbb
    have F0 : Hid (Blk v_17 b0 [.int .i64 h.fl, .int .i64 h.gp, .int .i64 h.ln, .int .i64 h.rf, .int .i64 h.sp, .int .i64 h.pu, .int .i64 h.br, .int .i64 h.dr, .int .i64 h.lv, .int .i64 h.dO, .int .i64 h.ld, .int .i64 h.qu]) := by rw [hw2]; exact F0.out.alloc _
    have F1 : Hid (Blk v_17 b1 [.int .i64 0, .int .i64 0, .int .i64 0, .int .i64 0, .int .i64 0, .int .i64 0, .int .i64 0]) := by rw [hw2]; exact F1.out.alloc _
    have F2 : Hid (Blk v_17 b2 [.int .i64 kl, .int .i64 vl]) := by rw [hw2]; exact F2.out.alloc _
    have F3 : Hid (Blk v_17 b3 [.int .i64 ku, .int .i64 vu]) := by rw [hw2]; exact F3.out.alloc _
    have F4 : Hid (Blk v_17 b4 [.int .i64 vl, .int .i64 0, .int .i64 0, .int .i64 vu, .int .i64 0, .int .i64 0]) := by rw [hw2]; exact F4.out.alloc _
    have FB : Hid (Below w.heap.size w v_17) := by rw [hw2]; exact FB.out.alloc FB.out.size _
    rw [← hw2, ← hbb]
    clear hbb hw2
    refine hK.out _ _ (by (try dsimp only); first | exact ⟨F0.out, F2.out, F3.out, F4.out⟩ | go_keep) (fun hHeld => ?_)
    clear hK K
    try simp only [Act.put, List.getElem_toArray, List.getElem_cons_succ, List.getElem_cons_zero, List.setIfInBounds_toArray, List.set_cons_zero, List.set_cons_succ]
    refine wpAnyH_ready (rs := [8]) (by kernel_rfl) (by simp) ?_
    refine (AllReadyH.cons rfl (fun K hK => ?_) AllReadyH.nil)
    go_simp
    refine (CO _ _ (FL0.out.c 0 _ rfl) (FL0.out.c 1 _ rfl) (FL0.out.c 2 _ rfl)).mono ?_
    rintro e w_ ⟨rfl, hw⟩
    obtain rfl := hw.symm
    clear hw
    try dsimp only
    refine hK.out _ _ (by (try dsimp only); first | exact ⟨F0.out, F2.out, F3.out, F4.out⟩ | go_keep) (fun hHeld => ?_)
    clear hK K
    try simp only [Act.put, List.getElem_toArray, List.getElem_cons_succ, List.getElem_cons_zero, List.setIfInBounds_toArray, List.set_cons_zero, List.set_cons_succ]
    refine tkz 9 rfl ?_
    refine wpAnyH_done (by kernel_rfl) ?_ _
    go_wp2_with fail
    go_meet
    case rel => exact ⟨rfl, F1.out, F4.out, FB.out⟩
  case rest =>
  obtain ⟨rfl, h1, h4, hB⟩ := hcut
  have F1 : Hid (Blk wc b1 [.int .i64 0, .int .i64 0, .int .i64 0, .int .i64 0, .int .i64 0, .int .i64 0, .int .i64 0]) := h1
  have F4 : Hid (Blk wc b4 [.int .i64 vl, .int .i64 0, .int .i64 0, .int .i64 vu, .int .i64 0, .int .i64 0]) := h4
  have FB : Hid (Below w.heap.size w wc) := hB
  clear h1 h4 hB
  by_cases hz : kk = 0
  case neg =>
    have hn : (kk != 0) = true := by simpa using hz
    go_wp2_with (first | (refine store_blk [.int .i64 kk, .int .i64 0, .int .i64 0, .int .i64 0, .int .i64 0, .int .i64 0, .int .i64 0] 30 _ _ (by kernel_rfl) (by kernel_rfl) (by kernel_rfl) F1.out rfl rfl rfl rfl ?_))
    exact bodyPost_ret (v := .agg #[.int .i64 kk, .int .i64 0, .int .i64 0, .int .i64 0, .int .i64 0, .int .i64 0, .int .i64 0]) ((F1.out.row [.int .i64 kk, .int .i64 0, .int .i64 0, .int .i64 0, .int .i64 0, .int .i64 0, .int .i64 0]).res _ Try.results7 Try.underlying30 (by kernel_rfl) rfl) rfl ⟨ret_seven (s := ⟨⟨0, 0, 0⟩, ⟨0, 0, 0⟩⟩) EK.out (HVn.out (by rw [← EK.out]; assumption)), below_row FB.out leb1 _⟩
  case pos =>
  subst hz
  go_wp2_with (first | (refine load_blk 28 _ Try.underlying28 (by kernel_rfl) F4.out rfl rfl rfl ?_) | (refine store_blk [.int .i64 0, .int .i64 vl, .int .i64 0, .int .i64 0, .int .i64 vu, .int .i64 0, .int .i64 0] 30 _ _ (by kernel_rfl) (by kernel_rfl) (by kernel_rfl) F1.out rfl rfl rfl rfl ?_))
  exact bodyPost_ret (v := .agg #[.int .i64 0, .int .i64 vl, .int .i64 0, .int .i64 0, .int .i64 vu, .int .i64 0, .int .i64 0]) ((F1.out.row [.int .i64 0, .int .i64 vl, .int .i64 0, .int .i64 0, .int .i64 vu, .int .i64 0, .int .i64 0]).res _ Try.results7 Try.underlying30 (by kernel_rfl) rfl) rfl ⟨ret_seven (s := ⟨⟨vl, 0, 0⟩, ⟨vu, 0, 0⟩⟩) EK.out (HVY.out EK.out.symm), below_row FB.out leb1 _⟩
end Go.Proofs.Ytemiefpkphfpgaa
