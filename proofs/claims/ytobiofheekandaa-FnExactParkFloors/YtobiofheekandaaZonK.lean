/-
  Zones: where the cars wait (the model).
-/
import Derived.Test.YtobiofheekandaaZonN
import Derived.Test.YtobiofheekandaaZonZ
import Derived.Test.YtobiofheekandaaZonI
import Derived.BigQuiet
namespace Go.Proofs.Ytobiofheekandaa
open Go.RowKit Pl
set_option linter.unusedSimpArgs false
set_option linter.unusedVariables false

theorem IIn.drawn {w : World} {a : Option Addr} {l : List Int} {n : Nat} (h : IIn w a l) : IIn (w.drewN n) a l := h.below ⟨rfl, rfl, rfl, Nat.le_refl _, fun _ _ => rfl⟩
set_option maxRecDepth 20000 in
set_option maxHeartbeats 16000000 in
theorem specPark_any (h : Hs) (l : List Int) (a : Option Addr) (cap : Nat) (hl : l.length ≤ 1048576) (w : World) (hI : IIn w a l) :
    Calls Try.prog 43 #[.agg #[.int .i64 h.fl, .int .i64 h.gp, .int .i64 h.ln, .int .i64 h.rf, .int .i64 h.sp, .int .i64 h.pu, .int .i64 h.br, .int .i64 h.dr, .int .i64 h.lv, .int .i64 h.dO, .int .i64 h.ld, .int .i64 h.qu], .slice a l.length cap] w fun e w' => (∃ v, e = .returned (.agg #[.int .i64 (h.znK l), v]) ∧ OwI w' w.heap.size v (Hs.pkL h l)) ∧ Below w.heap.size w w' := by
  have HI : Hid (IIn w a l) := hI
  clear hI
  obtain ⟨K, hK⟩ : ∃ K, h.znK l = K := ⟨_, rfl⟩
  obtain ⟨V, hV⟩ : ∃ V, Hs.pkL h l = V := ⟨_, rfl⟩
  rw [hK, hV]
  have HK0 : Hid (h.znK l = K) := hK
  have HV0 : Hid (Hs.pkL h l = V) := hV
  clear hK hV
  obtain ⟨b0, hb0⟩ : ∃ b0, b0 = w.heap.size := ⟨_, rfl⟩
  obtain ⟨b1, hb1⟩ : ∃ b1, b1 = b0 + 1 := ⟨_, rfl⟩
  obtain ⟨W0, hW0⟩ : ∃ W0, W0 = (w.alloc (.cells #[.int .i64 h.fl, .int .i64 h.gp, .int .i64 h.ln, .int .i64 h.rf, .int .i64 h.sp, .int .i64 h.pu, .int .i64 h.br, .int .i64 h.dr, .int .i64 h.lv, .int .i64 h.dO, .int .i64 h.ld, .int .i64 h.qu] 25)).alloc (.cells #[.int .i64 0, .slice none 0 0] 30) := ⟨_, rfl⟩
  have F0 : Hid (Blk W0 b0 [.int .i64 h.fl, .int .i64 h.gp, .int .i64 h.ln, .int .i64 h.rf, .int .i64 h.sp, .int .i64 h.pu, .int .i64 h.br, .int .i64 h.dr, .int .i64 h.lv, .int .i64 h.dO, .int .i64 h.ld, .int .i64 h.qu]) := by rw [hW0]; exact (Blk.at_ w #[.int .i64 h.fl, .int .i64 h.gp, .int .i64 h.ln, .int .i64 h.rf, .int .i64 h.sp, .int .i64 h.pu, .int .i64 h.br, .int .i64 h.dr, .int .i64 h.lv, .int .i64 h.dO, .int .i64 h.ld, .int .i64 h.qu] _ _ hb0).alloc _
  have F1 : Hid (Blk W0 b1 [.int .i64 0, .slice none 0 0]) := by rw [hW0]; exact Blk.at_ _ #[.int .i64 0, .slice none 0 0] _ _ (by simp; omega)
  have FB : Hid (Below w.heap.size w W0) := by rw [hW0]; exact ((Below.refl _ _).alloc (Nat.le_refl _) _).alloc (by simp) _
  have leb1 : w.heap.size ≤ b1 := by omega
  have l01 : b0 < b1 := by omega
  go_enter Try.func43, Try.ntmps43
  go_upto_region 1 with fail
  rw [← hb0, ← hb1, ← hW0]
  clear hb0 hb1 hW0
  go_upto_region 2 with (first | (refine load_blk 25 _ Try.underlying25 (by kernel_rfl) F0.out rfl rfl rfl ?_) | (go_at_call 39; refine (specZones_any h l a cap hl _ (HI.out.below FB.out)).mono ?_; rw [HK0.out]; rintro e w1 ⟨rfl, hb⟩; have F0 : Hid (Blk w1 b0 [.int .i64 h.fl, .int .i64 h.gp, .int .i64 h.ln, .int .i64 h.rf, .int .i64 h.sp, .int .i64 h.pu, .int .i64 h.br, .int .i64 h.dr, .int .i64 h.lv, .int .i64 h.dO, .int .i64 h.ld, .int .i64 h.qu]) := F0.out.below hb F0.out.lt; have F1 : Hid (Blk w1 b1 [.int .i64 0, .slice none 0 0]) := F1.out.below hb F1.out.lt; have FB : Hid (Below w.heap.size w w1) := FB.out.trans (hb.mono FB.out.size); clear hb))
  by_cases hz : K = 0
  case neg =>
    have hn : (K != 0) = true := by simpa using hz
    have HV : Hid ([] = V) := by show _ = V; rw [← HV0.out]; unfold Hs.pkL; rw [HK0.out, if_neg hz]
    go_wp2_with (refine store_blk [.int .i64 (K), .slice none 0 0] 30 _ _ (by kernel_rfl) (by kernel_rfl) (by kernel_rfl) F1.out rfl rfl rfl rfl ?_)
    exact bodyPost_ret (v := .agg #[.int .i64 (K), .slice none 0 0]) ((F1.out.row [.int .i64 (K), .slice none 0 0]).res _ Try.results43 Try.underlying30 (by kernel_rfl) rfl) rfl ⟨⟨_, rfl, by rw [← HV.out]; exact owi_nil _ _⟩, below_row FB.out leb1 _⟩
  case pos =>
  subst hz
  have HV : Hid (pkP l l.length = V) := by show _ = V; rw [← HV0.out]; unfold Hs.pkL; rw [HK0.out, if_pos rfl]
  have l6 : l.length ≤ 6 := (znK_zero HK0.out).2.2.1
  have f12 := fl_of (znK_zero HK0.out).1
  obtain ⟨f1, f2⟩ := f12
  go_upto_region 5 with (refine store_new [.int .i64 0, .slice none 0 0] 30 _ _ (by kernel_rfl) (by kernel_rfl) (by kernel_rfl) rfl rfl rfl rfl ?_)
  obtain ⟨b2, hb2⟩ : ∃ b2, b2 = w1.heap.size := ⟨_, rfl⟩
  obtain ⟨w3, hw3⟩ : ∃ w3, w3 = w1.alloc (.cells #[.int .i64 0, .slice none 0 0] 30) := ⟨_, rfl⟩
  have l12 : b1 < b2 := by rw [hb2]; exact F1.out.lt
  have leb2 : w.heap.size ≤ b2 := by omega
  have F2 : Hid (Blk w3 b2 [.int .i64 0, .slice none 0 0]) := by rw [hw3]; exact Blk.at_ w1 #[.int .i64 0, .slice none 0 0] _ _ hb2
  have F0 : Hid (Blk w3 b0 [.int .i64 h.fl, .int .i64 h.gp, .int .i64 h.ln, .int .i64 h.rf, .int .i64 h.sp, .int .i64 h.pu, .int .i64 h.br, .int .i64 h.dr, .int .i64 h.lv, .int .i64 h.dO, .int .i64 h.ld, .int .i64 h.qu]) := by rw [hw3]; exact F0.out.alloc _
  have F1 : Hid (Blk w3 b1 [.int .i64 0, .slice none 0 0]) := by rw [hw3]; exact F1.out.alloc _
  have FB : Hid (Below w.heap.size w w3) := by rw [hw3]; exact FB.out.alloc FB.out.size _
  (try simp only [Act.put])
  rw [← hw3, ← hb2]
  clear hw3 hb2
  obtain ⟨B2, hB2⟩ : ∃ B2, B2 = w3.heap.size := ⟨_, rfl⟩
  have lB2b : b2 < B2 := by rw [hB2]; exact F2.out.lt
  have HB2 : Hid (B2 ≤ w3.heap.size) := by show B2 ≤ _; omega
  have lB2 : w.heap.size ≤ B2 := by omega
  clear hB2
  go_wp2_with fail
  go_loopw [7] (fun ii wr => ∃ (i : Nat) (va : Option Addr) (vc : Nat), ii = .int .i64 (i : Int) ∧ i ≤ l.length ∧ OwI wr B2 (.slice va (pkP l i).length vc) (pkP l i) ∧ Blk wr b0 [.int .i64 h.fl, .int .i64 h.gp, .int .i64 h.ln, .int .i64 h.rf, .int .i64 h.sp, .int .i64 h.pu, .int .i64 h.br, .int .i64 h.dr, .int .i64 h.lv, .int .i64 h.dO, .int .i64 h.ld, .int .i64 h.qu] ∧ Blk wr b1 [.int .i64 0, .slice none 0 0] ∧ Blk wr b2 [.int .i64 0, .slice va (pkP l i).length vc] ∧ B2 ≤ wr.heap.size ∧ Below w.heap.size w wr) (fun ii _ => l.length - (intOf ii).toNat)
  case atStart => exact ⟨0, none, 0, rfl, by omega, owi_nil _ _, F0.out, F1.out, F2.out, HB2.out, FB.out⟩
  case round =>
    obtain ⟨i, va, vc, rfl, hi, ho, hf0, hf1, hf2, hs, hb⟩ := hrel
    have F0 : Hid (Blk wr b0 [.int .i64 h.fl, .int .i64 h.gp, .int .i64 h.ln, .int .i64 h.rf, .int .i64 h.sp, .int .i64 h.pu, .int .i64 h.br, .int .i64 h.dr, .int .i64 h.lv, .int .i64 h.dO, .int .i64 h.ld, .int .i64 h.qu]) := hf0
    have F1 : Hid (Blk wr b1 [.int .i64 0, .slice none 0 0]) := hf1
    have F2 : Hid (Blk wr b2 [.int .i64 0, .slice va (pkP l i).length vc]) := hf2
    have FB : Hid (Below w.heap.size w wr) := hb
    have HO : Hid (OwI wr B2 (.slice va (pkP l i).length vc) (pkP l i)) := ho
    have HS : Hid (B2 ≤ wr.heap.size) := hs
    clear hf0 hf1 hf2 hb ho hs HB2
    by_cases hlt : i < l.length
    · obtain ⟨x, hx⟩ : ∃ x, l[i]? = some x := ⟨_, List.getElem?_eq_getElem hlt⟩
      obtain ⟨M, hM, hM1, hM2, hM0⟩ := zone_nat HK0.out (List.mem_of_getElem? hx)
      subst hM
      have HP : Hid (pkP l (i + 1) = pkP l i ++ [parkF M (maskN (pkP l i))]) := pkP_succ hx
      rcases HI.out with h0 | ⟨g, rfl, hg, hc⟩
      · rw [h0] at hlt; simp at hlt
      have FC : Hid (One wr g i (M : Int)) := ⟨(FB.out.cell (p := ⟨g, i, none⟩) hg).trans (hc i _ hx)⟩
      have ll : (pkP l i).length ≤ 6 := by rw [pkP_len]; omega
      clear hx hc
      have HPB : Hid (∀ y ∈ pkP l i, 0 ≤ y) := fun y hy => (pkP_bd HK0.out i (by omega) y hy).1
      obtain ⟨L, hL⟩ : ∃ L, pkP l i = L := ⟨_, rfl⟩
      rw [hL] at HP HO F2 ll HPB
      clear hL
      have hne : fls 12 M ≠ [] := fun e => hM0 ((fls_nil hM2).1 e)
      have HQB : Hid (∀ y ∈ fls 12 M, 0 ≤ y ∧ y < 12) := fun y hy => by have := fls_bd hy; omega
      have CF : ∀ W, Calls Try.prog 58 #[.agg #[.int .i64 h.fl, .int .i64 h.gp, .int .i64 h.ln, .int .i64 h.rf, .int .i64 h.sp, .int .i64 h.pu, .int .i64 h.br, .int .i64 h.dr, .int .i64 h.lv, .int .i64 h.dO, .int .i64 h.ld, .int .i64 h.qu], .int .i64 (M : Int)] W fun e w' => ∃ v, e = .returned v ∧ OwI w' W.heap.size v (fls 12 M) ∧ Below W.heap.size W w' := by
        intro W
        have z := l12Floors_any h M f1 f2 hM2 W
        rw [← fls_cut hM1 (show h.fl.toNat ≤ 12 by omega)] at z
        exact z
      have lQ := fls_len 12 M
      have HPK : Hid (parkF M (maskN L) = if (maskN L).testBit (midL (fls 12 M)).toNat = true then freeL (maskN L) (fls 12 M) (midL (fls 12 M)) else midL (fls 12 M)) := rfl
      obtain ⟨Q, hQ⟩ : ∃ Q, fls 12 M = Q := ⟨_, rfl⟩
      rw [hQ] at hne HQB CF lQ HPK
      have lQ0 : 0 < Q.length := List.length_pos_iff.2 hne
      have HG : Hid (Q[(Q.length - 1) / 2]? = some (midL Q)) := midL_get hne
      have HMB : Hid (0 ≤ midL Q ∧ midL Q < 12) := HQB.out _ (midL_mem hne)
      clear hQ hne
      obtain ⟨P, hP⟩ : ∃ P, parkF M (maskN L) = P := ⟨_, rfl⟩
      rw [hP] at HP HPK
      clear hP
      have FZ : Hid (Below wr.heap.size wr wr) := Below.refl _ _
      go_wp2_with fail
      go_cut [8] from 25 to 66 (fun v wx => OwI wx B2 v Q ∧ OwI wx B2 (.slice va L.length vc) L ∧ Blk wx b0 [.int .i64 h.fl, .int .i64 h.gp, .int .i64 h.ln, .int .i64 h.rf, .int .i64 h.sp, .int .i64 h.pu, .int .i64 h.br, .int .i64 h.dr, .int .i64 h.lv, .int .i64 h.dO, .int .i64 h.ld, .int .i64 h.qu] ∧ Blk wx b1 [.int .i64 0, .slice none 0 0] ∧ Blk wx b2 [.int .i64 0, .slice va L.length vc] ∧ B2 ≤ wx.heap.size ∧ Below w.heap.size w wx)
      case first =>
        have F0 : Hid (Blk wr.drew b0 [.int .i64 h.fl, .int .i64 h.gp, .int .i64 h.ln, .int .i64 h.rf, .int .i64 h.sp, .int .i64 h.pu, .int .i64 h.br, .int .i64 h.dr, .int .i64 h.lv, .int .i64 h.dO, .int .i64 h.ld, .int .i64 h.qu]) := F0.out.below (Below.refl _ _).drew F0.out.lt
        have F1 : Hid (Blk wr.drew b1 [.int .i64 0, .slice none 0 0]) := F1.out.below (Below.refl _ _).drew F1.out.lt
        have F2 : Hid (Blk wr.drew b2 [.int .i64 0, .slice va L.length vc]) := F2.out.below (Below.refl _ _).drew F2.out.lt
        have FC : Hid (One wr.drew g i (M : Int)) := FC.out.below (Below.refl _ _).drew FC.out.lt
        have HO : Hid (OwI wr.drew B2 (.slice va L.length vc) L) := HO.out.drew
        have FB : Hid (Below w.heap.size w wr.drew) := FB.out.drew
        have FZ : Hid (Below wr.heap.size wr wr.drew) := FZ.out.drew
        have m0 := FC.out.c
        refine wp_region_held_drew (S := (fun w'' => Blk w'' b0 ([.int .i64 h.fl, .int .i64 h.gp, .int .i64 h.ln, .int .i64 h.rf, .int .i64 h.sp, .int .i64 h.pu, .int .i64 h.br, .int .i64 h.dr, .int .i64 h.lv, .int .i64 h.dO, .int .i64 h.ld, .int .i64 h.qu]) ∧ w''.cell? ⟨g, i, none⟩ = some (.int .i64 (M : Int)))) (by kernel_rfl) (by (try dsimp only); first | exact ⟨F0.out, m0⟩ | go_keep) (fun hHeld => ?_)
        obtain ⟨v_1, hw1⟩ : ∃ v_1, v_1 = wr.drew := ⟨_, rfl⟩
        have F0 : Hid (Blk v_1 b0 [.int .i64 h.fl, .int .i64 h.gp, .int .i64 h.ln, .int .i64 h.rf, .int .i64 h.sp, .int .i64 h.pu, .int .i64 h.br, .int .i64 h.dr, .int .i64 h.lv, .int .i64 h.dO, .int .i64 h.ld, .int .i64 h.qu]) := by rw [hw1]; exact F0.out
        have F1 : Hid (Blk v_1 b1 [.int .i64 0, .slice none 0 0]) := by rw [hw1]; exact F1.out
        have F2 : Hid (Blk v_1 b2 [.int .i64 0, .slice va L.length vc]) := by rw [hw1]; exact F2.out
        have FC : Hid (One v_1 g i (M : Int)) := by rw [hw1]; exact FC.out
        have HO : Hid (OwI v_1 B2 (.slice va L.length vc) L) := by rw [hw1]; exact HO.out
        have FB : Hid (Below w.heap.size w v_1) := by rw [hw1]; exact FB.out
        have FZ : Hid (Below wr.heap.size wr v_1) := by rw [hw1]; exact FZ.out
        rw [← hw1] at hHeld ⊢
        clear hw1
        have m0 := FC.out.c
        refine tkz 0 rfl ?_ (hy := Or.inl ⟨by kernel_rfl, fun wx hSw => exec_load_blk 25 _ Try.underlying25 (by kernel_rfl) rfl rfl hSw.1⟩)
        refine tkz 1 rfl ?_
        refine tkz 2 rfl ?_
        refine tkz 3 rfl ?_
        refine tkz 4 rfl ?_
        refine wpAnyH_ready (rs := [5]) (by kernel_rfl) (by simp) ?_
        refine (AllReadyH.cons rfl (fun K hK => ?_) AllReadyH.nil)
        go_simp
        refine (CF _).mono ?_
        rintro e v_2 ⟨lv, rfl, ho, hb⟩
        have FL : Hid (OwI v_2 B2 lv Q) := ho.base (Nat.le_trans HS.out FZ.out.size)
        have F0 : Hid (Blk v_2 b0 [.int .i64 h.fl, .int .i64 h.gp, .int .i64 h.ln, .int .i64 h.rf, .int .i64 h.sp, .int .i64 h.pu, .int .i64 h.br, .int .i64 h.dr, .int .i64 h.lv, .int .i64 h.dO, .int .i64 h.ld, .int .i64 h.qu]) := F0.out.below hb F0.out.lt
        have F1 : Hid (Blk v_2 b1 [.int .i64 0, .slice none 0 0]) := F1.out.below hb F1.out.lt
        have F2 : Hid (Blk v_2 b2 [.int .i64 0, .slice va L.length vc]) := F2.out.below hb F2.out.lt
        have FC : Hid (One v_2 g i (M : Int)) := FC.out.below hb FC.out.lt
        have HO : Hid (OwI v_2 B2 (.slice va L.length vc) L) := HO.out.below hb (fun k hk => (HO.out.lt k hk).2)
        have FB : Hid (Below w.heap.size w v_2) := FB.out.trans (hb.mono FB.out.size)
        have FZ : Hid (Below wr.heap.size wr v_2) := FZ.out.trans (hb.mono FZ.out.size)
        clear hb
        have m0 := FC.out.c
        try dsimp only
        refine hK.out _ _ (by (try dsimp only); first | exact ⟨F0.out, m0⟩ | go_keep) (fun hHeld => ?_)
        clear hK K
        try simp only [Act.put, List.getElem_toArray, List.getElem_cons_succ, List.getElem_cons_zero, List.setIfInBounds_toArray, List.set_cons_zero, List.set_cons_succ]
        refine tkz 6 rfl ?_
        refine wpAnyH_done (by kernel_rfl) ?_ _
        go_wp2_with fail
        go_meet
        case rel => exact ⟨FL.out, HO.out, F0.out, F1.out, F2.out, Nat.le_trans HS.out FZ.out.size, FB.out⟩
      case rest =>
      obtain ⟨hq, ho, hf0, hf1, hf2, hs, hb⟩ := hcut
      rcases hq.cases with ⟨_, e⟩ | ⟨gq, cq, e⟩
      · rw [e] at lQ0; simp at lQ0
      subst e
      have HQ : Hid (OwI wc B2 (.slice (some ⟨gq, 0, none⟩) Q.length cq) Q) := hq
      have F0 : Hid (Blk wc b0 [.int .i64 h.fl, .int .i64 h.gp, .int .i64 h.ln, .int .i64 h.rf, .int .i64 h.sp, .int .i64 h.pu, .int .i64 h.br, .int .i64 h.dr, .int .i64 h.lv, .int .i64 h.dO, .int .i64 h.ld, .int .i64 h.qu]) := hf0
      have F1 : Hid (Blk wc b1 [.int .i64 0, .slice none 0 0]) := hf1
      have F2 : Hid (Blk wc b2 [.int .i64 0, .slice va L.length vc]) := hf2
      have FB : Hid (Below w.heap.size w wc) := hb
      have HO : Hid (OwI wc B2 (.slice va L.length vc) L) := ho
      have HS : Hid (B2 ≤ wc.heap.size) := hs
      clear hq ho hf0 hf1 hf2 hb hs FZ FC CF
      obtain ⟨d, hd⟩ : ∃ d, midL Q = d := ⟨_, rfl⟩
      obtain ⟨T, hT⟩ : ∃ T, maskN L = T := ⟨_, rfl⟩
      rw [hd] at HG HPK HMB
      rw [hT] at HPK
      have HTB : Hid (∀ y : Int, 0 ≤ y → hasI L y = T.testBit y.toNat) := fun y hy => by rw [← hT]; exact hasI_mask HPB.out hy
      clear hd hT
      obtain ⟨m, hm⟩ : ∃ m, Q.length = m + 1 := ⟨Q.length - 1, by omega⟩
      have HM1 : Hid (Q.length = m + 1) := hm
      have c9 : wc.cell? ⟨gq, m / 2, none⟩ = some (.int .i64 d) := by
        have z := HQ.out.cell HG.out
        rw [hm] at z
        exact z
      have m11 : m ≤ 11 := by omega
      have dm : m / 2 < m + 1 := by omega
      have y1 := F2.out.c 1 _ rfl
      have l20 : L.length ≤ 1048576 := by omega
      rw [hm]
      clear hm lQ0 lQ
      cases hB : hasI L d
      · have HE : Hid (d = P) := by
          show d = P
          rw [HPK.out, ← HTB.out d HMB.out.1, hB]
          rfl
        have y2 := F2.out.f 1 (by simp)
        go_upto_region 16 with (go_at_call 74; refine (l1Has_any L d va vc l20 _ HO.out.iin).mono ?_; rw [hB]; rintro e w' ⟨rfl, hw⟩; obtain rfl := hw.symm; clear hw)
        rw [HE.out]
        go_wp2_with (at_builtin; refine app_iG _ B2 _ L P _ _ rfl rfl rfl rfl HO.out (by omega) HS.out ?_; intro a' c' w7 ho2 hg; have G2 : Hid (Blk w7 b2 [.int .i64 0, .slice va L.length vc]) := F2.out.grown hg (fun e => by have := (HO.out.lt b2 e.symm).1; omega); have x1 := G2.out.c 1 _ rfl; have x2 := G2.out.f 1 (by simp))
        go_roundw
        case rel => exact ⟨i + 1, a', c', by simp, by omega, by rw [HP.out]; exact ho2.other (fun e => by have e2 : B2 ≤ b2 := (ho2.lt b2 e).1; omega) _, (F0.out.grown hg (fun e => by have := (HO.out.lt b0 e.symm).1; omega)).other (by omega), (F1.out.grown hg (fun e => by have := (HO.out.lt b1 e.symm).1; omega)).other (by omega), by rw [HP.out, List.length_append]; exact G2.out.set (k := 1) _ (by simp), by have := Nat.le_trans HS.out hg.size; simpa using this, (FB.out.grown hg FB.out.size (fun j hj => Nat.le_trans lB2 (HO.out.lt j hj).1)).setCell leb2 _⟩
        case measure => simp [intOf]; omega
      · have HE : Hid (freeL T Q d = P) := by
          show _ = P
          rw [HPK.out, ← HTB.out d HMB.out.1, hB, if_pos rfl]
        go_upto_region 11 with (go_at_call 74; refine (l1Has_any L d va vc l20 _ HO.out.iin).mono ?_; rw [hB]; rintro e w' ⟨rfl, hw⟩; obtain rfl := hw.symm; clear hw)
        clear c9 y1
        go_wp2_with fail
        go_loopw [9, 10] (fun aa kk wx => ∃ j : Nat, aa = .int .i64 (freeL T (Q.drop j) d) ∧ kk = .int .i64 ((j : Int) - 1) ∧ j ≤ m + 1 ∧ OwI wx B2 (.slice (some ⟨gq, 0, none⟩) Q.length cq) Q ∧ OwI wx B2 (.slice va L.length vc) L ∧ Blk wx b0 [.int .i64 h.fl, .int .i64 h.gp, .int .i64 h.ln, .int .i64 h.rf, .int .i64 h.sp, .int .i64 h.pu, .int .i64 h.br, .int .i64 h.dr, .int .i64 h.lv, .int .i64 h.dO, .int .i64 h.ld, .int .i64 h.qu] ∧ Blk wx b1 [.int .i64 0, .slice none 0 0] ∧ Blk wx b2 [.int .i64 0, .slice va L.length vc] ∧ B2 ≤ wx.heap.size ∧ Below w.heap.size w wx) (fun _ kk _ => ((intOf kk) + 1).toNat)
        case atStart => exact ⟨m + 1, by rw [← HM1.out, List.drop_length]; rfl, by simp, Nat.le_refl _, HQ.out, HO.out, F0.out, F1.out, F2.out, HS.out, FB.out⟩
        case round =>
          obtain ⟨j, rfl, rfl, hj, hq, ho, hf0, hf1, hf2, hs, hb⟩ := hrel
          have HQ : Hid (OwI wr B2 (.slice (some ⟨gq, 0, none⟩) Q.length cq) Q) := hq
          have F0 : Hid (Blk wr b0 [.int .i64 h.fl, .int .i64 h.gp, .int .i64 h.ln, .int .i64 h.rf, .int .i64 h.sp, .int .i64 h.pu, .int .i64 h.br, .int .i64 h.dr, .int .i64 h.lv, .int .i64 h.dO, .int .i64 h.ld, .int .i64 h.qu]) := hf0
          have F1 : Hid (Blk wr b1 [.int .i64 0, .slice none 0 0]) := hf1
          have F2 : Hid (Blk wr b2 [.int .i64 0, .slice va L.length vc]) := hf2
          have FB : Hid (Below w.heap.size w wr) := hb
          have HO : Hid (OwI wr B2 (.slice va L.length vc) L) := ho
          have HS : Hid (B2 ≤ wr.heap.size) := hs
          clear hq ho hf0 hf1 hf2 hb hs
          have y1 := F2.out.c 1 _ rfl
          have y2 := F2.out.f 1 (by simp)
          cases j with
          | zero =>
            have HE2 : Hid (freeL T (Q.drop 0) d = P) := HE.out
            rw [HE2.out]
            have dk : decide ((0 : Int) ≤ ((0 : Nat) : Int) - 1) = false := decide_eq_false (by omega)
            go_wp2_with (at_builtin; refine app_iG _ B2 _ L P _ _ rfl rfl rfl rfl HO.out (by omega) HS.out ?_; intro a' c' w7 ho2 hg; have G2 : Hid (Blk w7 b2 [.int .i64 0, .slice va L.length vc]) := F2.out.grown hg (fun e => by have := (HO.out.lt b2 e.symm).1; omega); have x1 := G2.out.c 1 _ rfl; have x2 := G2.out.f 1 (by simp))
            go_roundw
            case rel => first | exact ⟨i + 1, a', c', by simp, by omega, by rw [HP.out]; exact ho2.other (fun e => by have e2 : B2 ≤ b2 := (ho2.lt b2 e).1; omega) _, (F0.out.grown hg (fun e => by have := (HO.out.lt b0 e.symm).1; omega)).other (by omega), (F1.out.grown hg (fun e => by have := (HO.out.lt b1 e.symm).1; omega)).other (by omega), by rw [HP.out, List.length_append]; exact G2.out.set (k := 1) _ (by simp), by have := Nat.le_trans HS.out hg.size; simpa using this, (FB.out.grown hg FB.out.size (fun j hj => Nat.le_trans lB2 (HO.out.lt j hj).1)).setCell leb2 _⟩ | ((repeat apply Exists.intro); refine ⟨?_, rfl⟩; exact ⟨i + 1, a', c', by simp, by omega, by rw [HP.out]; exact ho2.other (fun e => by have e2 : B2 ≤ b2 := (ho2.lt b2 e).1; omega) _, (F0.out.grown hg (fun e => by have := (HO.out.lt b0 e.symm).1; omega)).other (by omega), (F1.out.grown hg (fun e => by have := (HO.out.lt b1 e.symm).1; omega)).other (by omega), by rw [HP.out, List.length_append]; exact G2.out.set (k := 1) _ (by simp), by have := Nat.le_trans HS.out hg.size; simpa using this, (FB.out.grown hg FB.out.size (fun j hj => Nat.le_trans lB2 (HO.out.lt j hj).1)).setCell leb2 _⟩)
            case measure => simp [intOf]; omega
          | succ j =>
            have ek : (((j + 1 : Nat) : Int) - 1) = (j : Int) := by omega
            rw [ek]
            obtain ⟨y, hy⟩ : ∃ y, Q[j]? = some y := ⟨_, List.getElem?_eq_getElem (by have := HM1.out; omega)⟩
            have c5 := HQ.out.cell hy
            have HYB : Hid (0 ≤ y) := (HQB.out y (List.mem_of_getElem? hy)).1
            have HDR : Hid (freeL T (Q.drop j) d = if T.testBit y.toNat = true then freeL T (Q.drop (j + 1)) d else y) := by
              show _ = _
              have hjl : j < Q.length := by have := HM1.out; omega
              have e : Q[j] = y := (List.getElem?_eq_some_iff.1 hy).2
              rw [List.drop_eq_getElem_cons hjl, e, freeL_cons]
            have jl : j < m + 1 := by omega
            have HJ : Hid (j + 1 ≤ m + 1) := hj
            rw [HM1.out]
            clear hy hj ek
            obtain ⟨A, hA⟩ : ∃ A, freeL T (Q.drop (j + 1)) d = A := ⟨_, rfl⟩
            rw [hA] at HDR ⊢
            clear hA
            cases hY : hasI L y
            · have HE3 : Hid (freeL T (Q.drop j) d = y) := by show _ = y; rw [HDR.out, ← HTB.out y HYB.out, hY]; rfl
              go_wp2_with fail
              go_quiet ((go_at_call 74; exact Calls.quiet_of_same (l1Has_any L y va vc l20 _ HO.out.iin.drawn)))
              obtain ⟨w9, hW9⟩ : ∃ w9, w9 = wr.drewN nq := ⟨_, rfl⟩
              have e0 : w9.heap = wr.heap := by rw [hW9]; rfl
              have hb9 : Below wr.heap.size wr w9 := by rw [hW9]; exact ⟨rfl, rfl, rfl, Nat.le_refl _, fun _ _ => rfl⟩
              have HQ : Hid (OwI w9 B2 (.slice (some ⟨gq, 0, none⟩) Q.length cq) Q) := HQ.out.below hb9 (fun k hk => (HQ.out.lt k hk).2)
              have HO : Hid (OwI w9 B2 (.slice va L.length vc) L) := HO.out.below hb9 (fun k hk => (HO.out.lt k hk).2)
              have F0 : Hid (Blk w9 b0 [.int .i64 h.fl, .int .i64 h.gp, .int .i64 h.ln, .int .i64 h.rf, .int .i64 h.sp, .int .i64 h.pu, .int .i64 h.br, .int .i64 h.dr, .int .i64 h.lv, .int .i64 h.dO, .int .i64 h.ld, .int .i64 h.qu]) := F0.out.of (by rw [e0])
              have F1 : Hid (Blk w9 b1 [.int .i64 0, .slice none 0 0]) := F1.out.of (by rw [e0])
              have F2 : Hid (Blk w9 b2 [.int .i64 0, .slice va L.length vc]) := F2.out.of (by rw [e0])
              have HS : Hid (B2 ≤ w9.heap.size) := by rw [hW9]; exact HS.out
              have FB : Hid (Below w.heap.size w w9) := FB.out.trans (hb9.mono FB.out.size)
              have c5 : w9.cell? ⟨gq, j, none⟩ = some (.int .i64 y) := by rw [hW9]; exact c5
              rw [← hW9]
              clear hW9 e0 hb9
              go_wp2_with fail
              go_roundw
              case rel => exact ⟨j, by rw [HE3.out], by first | rfl | simp, by have := HJ.out; omega, by first | exact HQ.out | (rw [← HM1.out]; exact HQ.out), HO.out, F0.out, F1.out, F2.out, HS.out, FB.out⟩
              case measure => simp [intOf] <;> omega
            · have HE3 : Hid (freeL T (Q.drop j) d = A) := by show _ = A; rw [HDR.out, ← HTB.out y HYB.out, hY]; rfl
              go_wp2_with fail
              go_quiet ((go_at_call 74; exact Calls.quiet_of_same (l1Has_any L y va vc l20 _ HO.out.iin.drawn)))
              obtain ⟨w9, hW9⟩ : ∃ w9, w9 = wr.drewN nq := ⟨_, rfl⟩
              have e0 : w9.heap = wr.heap := by rw [hW9]; rfl
              have hb9 : Below wr.heap.size wr w9 := by rw [hW9]; exact ⟨rfl, rfl, rfl, Nat.le_refl _, fun _ _ => rfl⟩
              have HQ : Hid (OwI w9 B2 (.slice (some ⟨gq, 0, none⟩) Q.length cq) Q) := HQ.out.below hb9 (fun k hk => (HQ.out.lt k hk).2)
              have HO : Hid (OwI w9 B2 (.slice va L.length vc) L) := HO.out.below hb9 (fun k hk => (HO.out.lt k hk).2)
              have F0 : Hid (Blk w9 b0 [.int .i64 h.fl, .int .i64 h.gp, .int .i64 h.ln, .int .i64 h.rf, .int .i64 h.sp, .int .i64 h.pu, .int .i64 h.br, .int .i64 h.dr, .int .i64 h.lv, .int .i64 h.dO, .int .i64 h.ld, .int .i64 h.qu]) := F0.out.of (by rw [e0])
              have F1 : Hid (Blk w9 b1 [.int .i64 0, .slice none 0 0]) := F1.out.of (by rw [e0])
              have F2 : Hid (Blk w9 b2 [.int .i64 0, .slice va L.length vc]) := F2.out.of (by rw [e0])
              have HS : Hid (B2 ≤ w9.heap.size) := by rw [hW9]; exact HS.out
              have FB : Hid (Below w.heap.size w w9) := FB.out.trans (hb9.mono FB.out.size)
              have c5 : w9.cell? ⟨gq, j, none⟩ = some (.int .i64 y) := by rw [hW9]; exact c5
              rw [← hW9]
              clear hW9 e0 hb9
              go_wp2_with fail
              go_roundw
              case rel => exact ⟨j, by rw [HE3.out], by first | rfl | simp, by have := HJ.out; omega, by first | exact HQ.out | (rw [← HM1.out]; exact HQ.out), HO.out, F0.out, F1.out, F2.out, HS.out, FB.out⟩
              case measure => simp [intOf] <;> omega
    · have e : i = l.length := by omega
      subst e
      have HO2 : Hid (OwI wr w.heap.size (.slice va (pkP l l.length).length vc) V) := by
        have z := HO.out.base lB2
        rw [HV.out] at z ⊢
        exact z
      have HOb : Hid (∀ j, (Value.slice va (pkP l l.length).length vc).ownBlock = some j → b1 < j) := fun j hj => Nat.lt_of_lt_of_le (by omega) (HO.out.lt j hj).1
      rw [HV.out] at HO2 HOb F2
      clear HO HV
      have HO := HO2
      have HOV : Hid (OwI (wr.setRow b1 #[.int .i64 0, .slice va V.length vc]) w.heap.size (.slice va V.length vc) V) := OwI.kept (row := some b1) HO.out ⟨rfl, rfl, rfl, by simp, fun k _ hne => setRow_other _ b1 k _ (fun q => hne (by rw [q]))⟩ (Or.inr (fun c => by have := HOb.out b1 c; omega))
      go_wp2_with (first | (refine load_blk 30 _ Try.underlying30 (by kernel_rfl) F2.out rfl rfl rfl ?_) | (refine store_blk [.int .i64 (0), .slice va V.length vc] 30 _ _ (by kernel_rfl) (by kernel_rfl) (by kernel_rfl) F1.out rfl rfl rfl rfl ?_))
      exact bodyPost_ret (v := .agg #[.int .i64 (0), .slice va V.length vc]) ((F1.out.row [.int .i64 (0), .slice va V.length vc]).res _ Try.results43 Try.underlying30 (by kernel_rfl) rfl) rfl ⟨⟨_, rfl, HOV.out⟩, below_row FB.out leb1 _⟩
end Go.Proofs.Ytobiofheekandaa
