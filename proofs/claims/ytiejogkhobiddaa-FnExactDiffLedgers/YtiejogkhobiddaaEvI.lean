/-
  The program's DiffLedgers.
-/
import Derived.Test.YtiejogkhobiddaaEvG
namespace Go.Proofs.Ytiejogkhobiddaa
open Go.RowKit Pl
set_option linter.unusedSimpArgs false
set_option linter.unusedVariables false

theorem OwnE.row {w : World} {B b : Nat} {v : Value} {l : List Ev} (h : OwnE w B v l) (hb : b < B) (cs : Array Value) : OwnE (w.setRow b cs) B v l := by
  refine ⟨h.1, ?_⟩
  rcases h.2 with hn | ⟨g, cap, cur, rfl, hB, hg, rest⟩
  · exact Or.inl hn
  · exact Or.inr ⟨g, cap, cur, rfl, hB, (setRow_other w b g cs (by omega)).trans hg, rest⟩
theorem led_len {h : Hs} {x : Lg} (k : Hs.led h x = 0) : x.ps.length ≤ 60 := by
  unfold Hs.led at k
  by_cases hf : h.fault = 0
  · rw [if_pos hf] at k
    unfold Hs.ledC at k
    split at k
    · by_cases z : 60 < x.ps.length
      · rw [if_pos z] at k; omega
      · omega
    · omega
  · rw [if_neg hf] at k; exact absurd k hf
set_option maxRecDepth 20000 in
set_option maxHeartbeats 16000000 in
theorem implDiff_any (h : Hs) (tk : Int) (x y : Lg) (a0 : Option Addr) (c0 : Nat) (a1 : Option Addr) (c1 : Nat) (hx : x.ps.length ≤ 1048576) (hy : y.ps.length ≤ 1048576) (w : World) (hP0 : PIn w w.heap.size a0 x.ps) (hP1 : PIn w w.heap.size a1 y.ps) :
    Calls Try.prog 8 #[.agg #[.int .i64 h.fl, .int .i64 h.gp, .int .i64 h.ln, .int .i64 h.rf, .int .i64 h.sp, .int .i64 h.pu, .int .i64 h.br, .int .i64 h.dr, .int .i64 h.lv, .int .i64 h.dO, .int .i64 h.ld, .int .i64 h.qu], .int .i64 tk, .agg #[.int .i64 x.nx, .slice a0 x.ps.length c0], .agg #[.int .i64 y.nx, .slice a1 y.ps.length c1]] w (isEvs w (Hs.dfK h tk x y) (Hs.dfV h tk x y)) := by
  have HP0 : Hid (PIn w w.heap.size a0 x.ps) := hP0
  have HP1 : Hid (PIn w w.heap.size a1 y.ps) := hP1
  obtain ⟨K, hK⟩ : ∃ K, Hs.dfK h tk x y = K := ⟨_, rfl⟩
  obtain ⟨V, hV⟩ : ∃ V, Hs.dfV h tk x y = V := ⟨_, rfl⟩
  rw [hK, hV]
  unfold Hs.dfV at hV
  rw [hK] at hV
  unfold Hs.dfK at hK
  have HK : Hid ((if Hs.led h x = 0 then (if Hs.led h y = 0 then (if inB tk 0 1000000000000000 = true then (if (diffL tk x.ps y.ps).isSome = true then 0 else 1) else 3) else Hs.led h y) else Hs.led h x) = K) := hK
  have HV : Hid ((if K = 0 then (diffL tk x.ps y.ps).getD [] else []) = V) := hV
  clear hP0 hP1 hK hV
  obtain ⟨W0, hW0⟩ : ∃ W0, W0 = (((w.alloc (.cells #[.int .i64 h.fl, .int .i64 h.gp, .int .i64 h.ln, .int .i64 h.rf, .int .i64 h.sp, .int .i64 h.pu, .int .i64 h.br, .int .i64 h.dr, .int .i64 h.lv, .int .i64 h.dO, .int .i64 h.ld, .int .i64 h.qu] 32)).alloc (.cells #[.int .i64 x.nx, .slice a0 x.ps.length c0] 36)).alloc (.cells #[.int .i64 y.nx, .slice a1 y.ps.length c1] 36)).alloc (.cells #[.int .i64 0, .int .i64 0, .slice none 0 0] 30) := ⟨_, rfl⟩
  have F0 : Hid (Blk W0 w.heap.size [.int .i64 h.fl, .int .i64 h.gp, .int .i64 h.ln, .int .i64 h.rf, .int .i64 h.sp, .int .i64 h.pu, .int .i64 h.br, .int .i64 h.dr, .int .i64 h.lv, .int .i64 h.dO, .int .i64 h.ld, .int .i64 h.qu]) := by rw [hW0]; exact (((Blk.at_ w _ _ _ rfl).alloc _).alloc _).alloc _
  have F1 : Hid (Blk W0 (w.heap.size + 1) [.int .i64 x.nx, .slice a0 x.ps.length c0]) := by rw [hW0]; exact ((Blk.at_ _ _ _ _ (by simp)).alloc _).alloc _
  have F2 : Hid (Blk W0 (w.heap.size + 2) [.int .i64 y.nx, .slice a1 y.ps.length c1]) := by rw [hW0]; exact (Blk.at_ _ _ _ _ (by simp)).alloc _
  have F3 : Hid (Blk W0 (w.heap.size + 3) [.int .i64 0, .int .i64 0, .slice none 0 0]) := by rw [hW0]; exact Blk.at_ _ _ _ _ (by simp)
  have FB : Hid (Below w.heap.size w W0) := by rw [hW0]; exact ((((Below.refl _ _).alloc (Nat.le_refl _) _).alloc (by simp) _).alloc (by simp; omega) _).alloc (by simp; omega) _
  have HW0 : Hid (W0 = (((w.alloc (.cells #[.int .i64 h.fl, .int .i64 h.gp, .int .i64 h.ln, .int .i64 h.rf, .int .i64 h.sp, .int .i64 h.pu, .int .i64 h.br, .int .i64 h.dr, .int .i64 h.lv, .int .i64 h.dO, .int .i64 h.ld, .int .i64 h.qu] 32)).alloc (.cells #[.int .i64 x.nx, .slice a0 x.ps.length c0] 36)).alloc (.cells #[.int .i64 y.nx, .slice a1 y.ps.length c1] 36)).alloc (.cells #[.int .i64 0, .int .i64 0, .slice none 0 0] 30)) := hW0
  clear hW0
  unfold isEvs
  go_enter Try.func8, Try.ntmps8
  go_upto_region 1 with fail
  rw [← HW0.out]
  clear HW0
  obtain ⟨q, hq⟩ : ∃ q, orI (Hs.led h x) (Hs.led h y) = q := ⟨_, rfl⟩
  go_cut [9] (fun c wx => c = .int .i64 (orI (Hs.led h x) (Hs.led h y)) ∧ Blk wx w.heap.size [.int .i64 h.fl, .int .i64 h.gp, .int .i64 h.ln, .int .i64 h.rf, .int .i64 h.sp, .int .i64 h.pu, .int .i64 h.br, .int .i64 h.dr, .int .i64 h.lv, .int .i64 h.dO, .int .i64 h.ld, .int .i64 h.qu] ∧ Blk wx (w.heap.size + 1) [.int .i64 x.nx, .slice a0 x.ps.length c0] ∧ Blk wx (w.heap.size + 2) [.int .i64 y.nx, .slice a1 y.ps.length c1] ∧ Blk wx (w.heap.size + 3) [.int .i64 0, .int .i64 0, .slice none 0 0] ∧ Below w.heap.size w wx)
  case first =>
    have F0 : Hid (Blk W0.drew w.heap.size [.int .i64 h.fl, .int .i64 h.gp, .int .i64 h.ln, .int .i64 h.rf, .int .i64 h.sp, .int .i64 h.pu, .int .i64 h.br, .int .i64 h.dr, .int .i64 h.lv, .int .i64 h.dO, .int .i64 h.ld, .int .i64 h.qu]) := F0.out.below (Below.refl _ _).drew F0.out.lt
    have F1 : Hid (Blk W0.drew (w.heap.size + 1) [.int .i64 x.nx, .slice a0 x.ps.length c0]) := F1.out.below (Below.refl _ _).drew F1.out.lt
    have F2 : Hid (Blk W0.drew (w.heap.size + 2) [.int .i64 y.nx, .slice a1 y.ps.length c1]) := F2.out.below (Below.refl _ _).drew F2.out.lt
    have F3 : Hid (Blk W0.drew (w.heap.size + 3) [.int .i64 0, .int .i64 0, .slice none 0 0]) := F3.out.below (Below.refl _ _).drew F3.out.lt
    have FB : Hid (Below w.heap.size w W0.drew) := FB.out.drew
    refine wp_region_held_drew (S := (fun w'' => Blk w'' w.heap.size ([.int .i64 h.fl, .int .i64 h.gp, .int .i64 h.ln, .int .i64 h.rf, .int .i64 h.sp, .int .i64 h.pu, .int .i64 h.br, .int .i64 h.dr, .int .i64 h.lv, .int .i64 h.dO, .int .i64 h.ld, .int .i64 h.qu]) ∧ Blk w'' (w.heap.size + 1) ([.int .i64 x.nx, .slice a0 x.ps.length c0]) ∧ Blk w'' (w.heap.size + 2) ([.int .i64 y.nx, .slice a1 y.ps.length c1]))) (by kernel_rfl) (by (try dsimp only); first | exact ⟨F0.out, F1.out, F2.out⟩ | go_keep) (fun hHeld => ?_)
    obtain ⟨v_1, hw1⟩ : ∃ v_1, v_1 = W0.drew := ⟨_, rfl⟩
    have F0 : Hid (Blk v_1 w.heap.size [.int .i64 h.fl, .int .i64 h.gp, .int .i64 h.ln, .int .i64 h.rf, .int .i64 h.sp, .int .i64 h.pu, .int .i64 h.br, .int .i64 h.dr, .int .i64 h.lv, .int .i64 h.dO, .int .i64 h.ld, .int .i64 h.qu]) := by rw [hw1]; exact F0.out
    have F1 : Hid (Blk v_1 (w.heap.size + 1) [.int .i64 x.nx, .slice a0 x.ps.length c0]) := by rw [hw1]; exact F1.out
    have F2 : Hid (Blk v_1 (w.heap.size + 2) [.int .i64 y.nx, .slice a1 y.ps.length c1]) := by rw [hw1]; exact F2.out
    have F3 : Hid (Blk v_1 (w.heap.size + 3) [.int .i64 0, .int .i64 0, .slice none 0 0]) := by rw [hw1]; exact F3.out
    have FB : Hid (Below w.heap.size w v_1) := by rw [hw1]; exact FB.out
    rw [← hw1] at hHeld ⊢
    clear hw1
    refine tkz 0 rfl ?_ (hy := Or.inl ⟨by kernel_rfl, fun wx hSw => exec_load_blk 32 _ Try.underlying32 (by kernel_rfl) rfl rfl hSw.1⟩)
    refine tkz 1 rfl ?_ (hy := Or.inl ⟨by kernel_rfl, fun wx hSw => exec_load_blk 36 _ Try.underlying36 (by kernel_rfl) rfl rfl hSw.2.1⟩)
    refine tkz 3 rfl ?_ (hy := Or.inl ⟨by kernel_rfl, fun wx hSw => exec_load_blk 32 _ Try.underlying32 (by kernel_rfl) rfl rfl hSw.1⟩)
    refine tkz 4 rfl ?_ (hy := Or.inl ⟨by kernel_rfl, fun wx hSw => exec_load_blk 36 _ Try.underlying36 (by kernel_rfl) rfl rfl hSw.2.2⟩)
    refine wpAnyH_ready (rs := [2]) (by kernel_rfl) (by simp) ?_
    refine (AllReadyH.cons rfl (fun K hK => ?_) AllReadyH.nil)
    go_simp
    refine (implLedgerFault_any h x a0 c0 hx _ ((HP0.out.below FB.out (Nat.le_refl _)).mono FB.out.size)).mono ?_
    rintro e v_2 ⟨rfl, hb⟩
    have F0 : Hid (Blk v_2 w.heap.size [.int .i64 h.fl, .int .i64 h.gp, .int .i64 h.ln, .int .i64 h.rf, .int .i64 h.sp, .int .i64 h.pu, .int .i64 h.br, .int .i64 h.dr, .int .i64 h.lv, .int .i64 h.dO, .int .i64 h.ld, .int .i64 h.qu]) := F0.out.below hb F0.out.lt
    have F1 : Hid (Blk v_2 (w.heap.size + 1) [.int .i64 x.nx, .slice a0 x.ps.length c0]) := F1.out.below hb F1.out.lt
    have F2 : Hid (Blk v_2 (w.heap.size + 2) [.int .i64 y.nx, .slice a1 y.ps.length c1]) := F2.out.below hb F2.out.lt
    have F3 : Hid (Blk v_2 (w.heap.size + 3) [.int .i64 0, .int .i64 0, .slice none 0 0]) := F3.out.below hb F3.out.lt
    have FB : Hid (Below w.heap.size w v_2) := FB.out.trans (hb.mono FB.out.size)
    clear hb
    try dsimp only
    refine hK.out _ _ (by (try dsimp only); first | exact ⟨F0.out, F1.out, F2.out⟩ | go_keep) (fun hHeld => ?_)
    clear hK K
    try simp only [Act.put, List.getElem_toArray, List.getElem_cons_succ, List.getElem_cons_zero, List.setIfInBounds_toArray, List.set_cons_zero, List.set_cons_succ]
    refine wpAnyH_ready (rs := [5]) (by kernel_rfl) (by simp) ?_
    refine (AllReadyH.cons rfl (fun K hK => ?_) AllReadyH.nil)
    go_simp
    refine (implLedgerFault_any h y a1 c1 hy _ ((HP1.out.below FB.out (Nat.le_refl _)).mono FB.out.size)).mono ?_
    rintro e v_3 ⟨rfl, hb⟩
    have F0 : Hid (Blk v_3 w.heap.size [.int .i64 h.fl, .int .i64 h.gp, .int .i64 h.ln, .int .i64 h.rf, .int .i64 h.sp, .int .i64 h.pu, .int .i64 h.br, .int .i64 h.dr, .int .i64 h.lv, .int .i64 h.dO, .int .i64 h.ld, .int .i64 h.qu]) := F0.out.below hb F0.out.lt
    have F1 : Hid (Blk v_3 (w.heap.size + 1) [.int .i64 x.nx, .slice a0 x.ps.length c0]) := F1.out.below hb F1.out.lt
    have F2 : Hid (Blk v_3 (w.heap.size + 2) [.int .i64 y.nx, .slice a1 y.ps.length c1]) := F2.out.below hb F2.out.lt
    have F3 : Hid (Blk v_3 (w.heap.size + 3) [.int .i64 0, .int .i64 0, .slice none 0 0]) := F3.out.below hb F3.out.lt
    have FB : Hid (Below w.heap.size w v_3) := FB.out.trans (hb.mono FB.out.size)
    clear hb
    try dsimp only
    refine hK.out _ _ (by (try dsimp only); first | exact ⟨F0.out, F1.out, F2.out⟩ | go_keep) (fun hHeld => ?_)
    clear hK K
    try simp only [Act.put, List.getElem_toArray, List.getElem_cons_succ, List.getElem_cons_zero, List.setIfInBounds_toArray, List.set_cons_zero, List.set_cons_succ]
    refine wpAnyH_ready (rs := [6]) (by kernel_rfl) (by simp) ?_
    refine (AllReadyH.cons rfl (fun K hK => ?_) AllReadyH.nil)
    go_simp
    obtain ⟨lb0, hbb⟩ : ∃ lb0, lb0 = v_3.heap.size := ⟨_, rfl⟩
    obtain ⟨v_4, hw2⟩ : ∃ v_4, v_4 = v_3.alloc (.cells #[.int .i64 (Hs.led h x), .int .i64 (Hs.led h y)] 2) := ⟨_, rfl⟩
    have nlb0_0 := F0.out.lt
    rw [← hbb] at nlb0_0
    have nlb0_1 := F1.out.lt
    rw [← hbb] at nlb0_1
    have nlb0_2 := F2.out.lt
    rw [← hbb] at nlb0_2
    have nlb0_3 := F3.out.lt
    rw [← hbb] at nlb0_3
    have FL0 : Hid (Pr2 v_4 lb0 (Hs.led h x) (Hs.led h y)) := by rw [hw2]; exact Pr2.at_ v_3 _ _ _ lb0 hbb
    have F0 : Hid (Blk v_4 w.heap.size [.int .i64 h.fl, .int .i64 h.gp, .int .i64 h.ln, .int .i64 h.rf, .int .i64 h.sp, .int .i64 h.pu, .int .i64 h.br, .int .i64 h.dr, .int .i64 h.lv, .int .i64 h.dO, .int .i64 h.ld, .int .i64 h.qu]) := by rw [hw2]; exact F0.out.alloc _
    have F1 : Hid (Blk v_4 (w.heap.size + 1) [.int .i64 x.nx, .slice a0 x.ps.length c0]) := by rw [hw2]; exact F1.out.alloc _
    have F2 : Hid (Blk v_4 (w.heap.size + 2) [.int .i64 y.nx, .slice a1 y.ps.length c1]) := by rw [hw2]; exact F2.out.alloc _
    have F3 : Hid (Blk v_4 (w.heap.size + 3) [.int .i64 0, .int .i64 0, .slice none 0 0]) := by rw [hw2]; exact F3.out.alloc _
    have FB : Hid (Below w.heap.size w v_4) := by rw [hw2]; exact FB.out.alloc FB.out.size _
    rw [← hw2, ← hbb]
    clear hbb hw2
    refine hK.out _ _ (by (try dsimp only); first | exact ⟨F0.out, F1.out, F2.out⟩ | go_keep) (fun hHeld => ?_)
    clear hK K
    try simp only [Act.put, List.getElem_toArray, List.getElem_cons_succ, List.getElem_cons_zero, List.setIfInBounds_toArray, List.set_cons_zero, List.set_cons_succ]
    refine wpAnyH_ready (rs := [7]) (by kernel_rfl) (by simp) ?_
    refine (AllReadyH.cons rfl (fun K hK => ?_) AllReadyH.nil)
    go_simp
    refine (or_any (Hs.led h x) (Hs.led h y) _ _ FL0.out.c0 FL0.out.c1).mono ?_
    rintro e w_ ⟨rfl, hw⟩
    obtain rfl := hw.symm
    clear hw
    try dsimp only
    refine hK.out _ _ (by (try dsimp only); first | exact ⟨F0.out, F1.out, F2.out⟩ | go_keep) (fun hHeld => ?_)
    clear hK K
    try simp only [Act.put, List.getElem_toArray, List.getElem_cons_succ, List.getElem_cons_zero, List.setIfInBounds_toArray, List.set_cons_zero, List.set_cons_succ]
    refine tkz 8 rfl ?_
    refine wpAnyH_done (by kernel_rfl) ?_ _
    go_wp2_with fail
    go_meet
    case rel => exact ⟨by first | rfl | rw [hq], F0.out, F1.out, F2.out, F3.out, FB.out⟩
  case rest =>
  obtain ⟨hc, hF0, hF1, hF2, hF3, hFB⟩ := hcut
  rw [hq] at hc
  subst hc
  have F0 : Hid (Blk wc w.heap.size [.int .i64 h.fl, .int .i64 h.gp, .int .i64 h.ln, .int .i64 h.rf, .int .i64 h.sp, .int .i64 h.pu, .int .i64 h.br, .int .i64 h.dr, .int .i64 h.lv, .int .i64 h.dO, .int .i64 h.ld, .int .i64 h.qu]) := hF0
  have F1 : Hid (Blk wc (w.heap.size + 1) [.int .i64 x.nx, .slice a0 x.ps.length c0]) := hF1
  have F2 : Hid (Blk wc (w.heap.size + 2) [.int .i64 y.nx, .slice a1 y.ps.length c1]) := hF2
  have F3 : Hid (Blk wc (w.heap.size + 3) [.int .i64 0, .int .i64 0, .slice none 0 0]) := hF3
  have FB : Hid (Below w.heap.size w wc) := hFB
  clear hF0 hF1 hF2 hF3 hFB
  by_cases hz : q = 0
  case neg =>
    have HC : Hid (q = K) := by
      show q = K
      have z := HK.out
      unfold orI at hq
      by_cases hx0 : Hs.led h x = 0
      · rw [if_pos hx0] at hq z
        rw [if_neg (by omega)] at z
        omega
      · rw [if_neg hx0] at hq z
        omega
    have HZ : Hid (V = []) := by have z := HV.out; rw [if_neg (by have := HC.out; omega)] at z; exact z.symm
    have hn : (q != 0) = true := by simpa using hz
    clear HK HV hq hz
    go_wp2_with (first | (refine store_blk [.int .i64 q, .int .i64 0, .slice none 0 0] 30 _ _ (by kernel_rfl) (by kernel_rfl) (by kernel_rfl) F3.out rfl rfl rfl rfl ?_))
    exact bodyPost_ret (v := .agg #[.int .i64 q, .int .i64 0, .slice none 0 0]) ((F3.out.row [.int .i64 q, .int .i64 0, .slice none 0 0]).res _ Try.results8 Try.underlying30 (by kernel_rfl) rfl) rfl ⟨.slice none 0 0, by rw [← HC.out], by rw [HZ.out]; exact OwnE.nil _ _, below_row FB.out (by omega) _⟩
  have hxy : Hs.led h x = 0 ∧ Hs.led h y = 0 := by
    unfold orI at hq
    split at hq
    · exact ⟨by assumption, by omega⟩
    · omega
  subst hz
  have ly := led_len hxy.2
  have HK : Hid ((if inB tk 0 1000000000000000 = true then (if (diffL tk x.ps y.ps).isSome = true then 0 else 1) else 3) = K) := by have z := HK.out; rw [if_pos hxy.1, if_pos hxy.2] at z; exact z
  clear hxy hq
  cases it : inB tk 0 1000000000000000
  · have HC : Hid ((3 : Int) = K) := by have z := HK.out; rw [it, if_neg (by decide)] at z; exact z
    have HZ : Hid (V = []) := by have z := HV.out; rw [← HC.out, if_neg (by decide)] at z; exact z.symm
    clear HK HV
    go_wp2_with (first | (refine store_blk [.int .i64 3, .int .i64 0, .slice none 0 0] 30 _ _ (by kernel_rfl) (by kernel_rfl) (by kernel_rfl) F3.out rfl rfl rfl rfl ?_) | (go_at_call 21; refine (isWithin_any _ _ _ _).mono ?_; rw [it]; rintro e w' ⟨rfl, hw⟩; obtain rfl := hw.symm; clear hw))
    exact bodyPost_ret (v := .agg #[.int .i64 3, .int .i64 0, .slice none 0 0]) ((F3.out.row [.int .i64 3, .int .i64 0, .slice none 0 0]).res _ Try.results8 Try.underlying30 (by kernel_rfl) rfl) rfl ⟨.slice none 0 0, by rw [← HC.out], by rw [HZ.out]; exact OwnE.nil _ _, below_row FB.out (by omega) _⟩
  have y1 := F1.out.c 1 _ rfl
  have y2 := F2.out.c 1 _ rfl
  cases ho2 : diffL tk x.ps y.ps with
  | none =>
    have HC : Hid ((1 : Int) = K) := by have z := HK.out; rw [if_pos it, ho2, if_neg (by decide)] at z; exact z
    have HZ : Hid (V = []) := by have z := HV.out; rw [← HC.out, if_neg (by decide)] at z; exact z.symm
    clear HK HV
    go_upto_region 8 with (first | (go_at_call 21; refine (isWithin_any _ _ _ _).mono ?_; rw [it]; rintro e w' ⟨rfl, hw⟩; obtain rfl := hw.symm; clear hw) | (go_at_call 22; have lsz := F3.out.lt; refine (eventsBetween_any tk a0 c0 x.ps a1 c1 y.ps hx ly _ ((HP0.out.below FB.out (Nat.le_refl _)).mono FB.out.size) ((HP1.out.below FB.out (Nat.le_refl _)).mono FB.out.size)).mono ?_; unfold isOp; rw [ho2]; rintro e w8 ⟨⟨v2, rfl, hv2⟩, hb⟩; have F0 : Hid (Blk w8 w.heap.size [.int .i64 h.fl, .int .i64 h.gp, .int .i64 h.ln, .int .i64 h.rf, .int .i64 h.sp, .int .i64 h.pu, .int .i64 h.br, .int .i64 h.dr, .int .i64 h.lv, .int .i64 h.dO, .int .i64 h.ld, .int .i64 h.qu]) := F0.out.below hb F0.out.lt; have F1 : Hid (Blk w8 (w.heap.size + 1) [.int .i64 x.nx, .slice a0 x.ps.length c0]) := F1.out.below hb F1.out.lt; have F2 : Hid (Blk w8 (w.heap.size + 2) [.int .i64 y.nx, .slice a1 y.ps.length c1]) := F2.out.below hb F2.out.lt; have F3 : Hid (Blk w8 (w.heap.size + 3) [.int .i64 0, .int .i64 0, .slice none 0 0]) := F3.out.below hb F3.out.lt; have FB : Hid (Below w.heap.size w w8) := FB.out.trans (hb.mono FB.out.size); clear hb))
    go_wp2_with (first | (refine store_blk [.int .i64 1, .int .i64 0, .slice none 0 0] 30 _ _ (by kernel_rfl) (by kernel_rfl) (by kernel_rfl) F3.out rfl rfl rfl rfl ?_))
    exact bodyPost_ret (v := .agg #[.int .i64 1, .int .i64 0, .slice none 0 0]) ((F3.out.row [.int .i64 1, .int .i64 0, .slice none 0 0]).res _ Try.results8 Try.underlying30 (by kernel_rfl) rfl) rfl ⟨.slice none 0 0, by rw [← HC.out], by rw [HZ.out]; exact OwnE.nil _ _, below_row FB.out (by omega) _⟩
  | some m =>
    have HC : Hid ((0 : Int) = K) := by have z := HK.out; rw [if_pos it, ho2, if_pos (by rfl)] at z; exact z
    have HZ : Hid (V = m) := by have z := HV.out; rw [← HC.out, if_pos rfl, ho2] at z; exact z.symm
    clear HK HV
    go_upto_region 9 with (first | (go_at_call 21; refine (isWithin_any _ _ _ _).mono ?_; rw [it]; rintro e w' ⟨rfl, hw⟩; obtain rfl := hw.symm; clear hw) | (go_at_call 22; have lsz := F3.out.lt; refine (eventsBetween_any tk a0 c0 x.ps a1 c1 y.ps hx ly _ ((HP0.out.below FB.out (Nat.le_refl _)).mono FB.out.size) ((HP1.out.below FB.out (Nat.le_refl _)).mono FB.out.size)).mono ?_; unfold isOp; rw [ho2]; rintro e w8 ⟨⟨v2, rfl, hv2⟩, hb⟩; have F0 : Hid (Blk w8 w.heap.size [.int .i64 h.fl, .int .i64 h.gp, .int .i64 h.ln, .int .i64 h.rf, .int .i64 h.sp, .int .i64 h.pu, .int .i64 h.br, .int .i64 h.dr, .int .i64 h.lv, .int .i64 h.dO, .int .i64 h.ld, .int .i64 h.qu]) := F0.out.below hb F0.out.lt; have F1 : Hid (Blk w8 (w.heap.size + 1) [.int .i64 x.nx, .slice a0 x.ps.length c0]) := F1.out.below hb F1.out.lt; have F2 : Hid (Blk w8 (w.heap.size + 2) [.int .i64 y.nx, .slice a1 y.ps.length c1]) := F2.out.below hb F2.out.lt; have F3 : Hid (Blk w8 (w.heap.size + 3) [.int .i64 0, .int .i64 0, .slice none 0 0]) := F3.out.below hb F3.out.lt; have FB : Hid (Below w.heap.size w w8) := FB.out.trans (hb.mono FB.out.size); clear hb))
    have hm := hv2 m rfl
    rcases hm.cases with ⟨e, hm0⟩ | ⟨g, cap, e, hB, hg, _⟩
    · subst e
      go_wp2_with (first | (refine store_blk [.int .i64 0, .int .i64 0, .slice none 0 0] 30 _ _ (by kernel_rfl) (by kernel_rfl) (by kernel_rfl) F3.out rfl rfl rfl rfl ?_))
      exact bodyPost_ret (v := .agg #[.int .i64 0, .int .i64 0, .slice none 0 0]) ((F3.out.row [.int .i64 0, .int .i64 0, .slice none 0 0]).res _ Try.results8 Try.underlying30 (by kernel_rfl) rfl) rfl ⟨.slice none 0 0, by rw [← HC.out], by rw [HZ.out]; exact (hm.row (by omega) _).base (by omega), below_row FB.out (by omega) _⟩
    · subst e
      go_wp2_with (first | (refine store_blk [.int .i64 0, .int .i64 0, .slice (some ⟨g, 0, none⟩) m.length cap] 30 _ _ (by kernel_rfl) (by kernel_rfl) (by kernel_rfl) F3.out rfl rfl rfl rfl ?_))
      exact bodyPost_ret (v := .agg #[.int .i64 0, .int .i64 0, .slice (some ⟨g, 0, none⟩) m.length cap]) ((F3.out.row [.int .i64 0, .int .i64 0, .slice (some ⟨g, 0, none⟩) m.length cap]).res _ Try.results8 Try.underlying30 (by kernel_rfl) rfl) rfl ⟨.slice (some ⟨g, 0, none⟩) m.length cap, by rw [← HC.out], by rw [HZ.out]; exact (hm.row (by omega) _).base (by omega), below_row FB.out (by omega) _⟩
end Go.Proofs.Ytiejogkhobiddaa
