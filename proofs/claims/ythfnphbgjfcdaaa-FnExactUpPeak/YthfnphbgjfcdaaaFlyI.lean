/-
  A flight, as the program has it.
-/
import Derived.Test.YthfnphbgjfcdaaaFlyQ
import Derived.Test.YthfnphbgjfcdaaaProfK
import Derived.Test.YthfnphbgjfcdaaaCarL
import Derived.Test.YthfnphbgjfcdaaaHouseG
import Derived.Test.YthfnphbgjfcdaaaHouseK
import Derived.Test.YthfnphbgjfcdaaaFnd
import Derived.Deep.DeepCutAuto
namespace Go.Proofs.Ythfnphbgjfcdaaa
open Go.RowKit Pl
set_option linter.unusedSimpArgs false
set_option linter.unusedVariables false

set_option maxRecDepth 20000 in
set_option maxHeartbeats 16000000 in
theorem implFlightTicks_any (h : Hs) (a b : Int) (w : World) :
    Calls Try.prog 10 #[.agg #[.int .i64 h.fl, .int .i64 h.gp, .int .i64 h.ln, .int .i64 h.rf, .int .i64 h.sp, .int .i64 h.pu, .int .i64 h.br, .int .i64 h.dr, .int .i64 h.lv, .int .i64 h.dO, .int .i64 h.ld, .int .i64 h.qu], .int .i64 a, .int .i64 b] w (isAns w (Hs.ftK h a b) (Hs.ftV h a b)) := by
  obtain ⟨K, hK⟩ : ∃ K, Hs.ftK h a b = K := ⟨_, rfl⟩
  obtain ⟨V, hV⟩ : ∃ V, Hs.ftV h a b = V := ⟨_, rfl⟩
  rw [hK, hV]
  have HK : Hid (Hs.ftK h a b = K) := hK
  have HV : Hid (Hs.ftV h a b = V) := hV
  obtain ⟨ka, hka⟩ : ∃ ka, h.fault = ka := ⟨_, rfl⟩
  have HA : Hid (h.fault = ka) := hka
  clear hK hV hka
  obtain ⟨b0, hb0⟩ : ∃ b0, b0 = w.heap.size := ⟨_, rfl⟩
  obtain ⟨b1, hb1⟩ : ∃ b1, b1 = b0 + 1 := ⟨_, rfl⟩
  obtain ⟨W0, hW0⟩ : ∃ W0, W0 = (w.alloc (.cells #[.int .i64 h.fl, .int .i64 h.gp, .int .i64 h.ln, .int .i64 h.rf, .int .i64 h.sp, .int .i64 h.pu, .int .i64 h.br, .int .i64 h.dr, .int .i64 h.lv, .int .i64 h.dO, .int .i64 h.ld, .int .i64 h.qu] 27)).alloc (.cells #[.int .i64 0, .int .i64 0] 25) := ⟨_, rfl⟩
  have F0 : Hid (Blk W0 b0 [.int .i64 h.fl, .int .i64 h.gp, .int .i64 h.ln, .int .i64 h.rf, .int .i64 h.sp, .int .i64 h.pu, .int .i64 h.br, .int .i64 h.dr, .int .i64 h.lv, .int .i64 h.dO, .int .i64 h.ld, .int .i64 h.qu]) := by rw [hW0]; exact ((Blk.at_ _ #[.int .i64 h.fl, .int .i64 h.gp, .int .i64 h.ln, .int .i64 h.rf, .int .i64 h.sp, .int .i64 h.pu, .int .i64 h.br, .int .i64 h.dr, .int .i64 h.lv, .int .i64 h.dO, .int .i64 h.ld, .int .i64 h.qu] _ _ hb0).alloc _)
  have F1 : Hid (Blk W0 b1 [.int .i64 0, .int .i64 0]) := by rw [hW0]; exact (Blk.at_ _ #[.int .i64 0, .int .i64 0] _ _ (by simp; omega))
  have FB : Hid (Below w.heap.size w W0) := by rw [hW0]; exact (((Below.refl _ _).alloc (Nat.le_refl _) _).alloc (by simp) _)
  have leb0 : w.heap.size ≤ b0 := by omega
  have leb1 : w.heap.size ≤ b1 := by omega
  have l01 : b0 < b1 := by omega
  go_enter Try.func10, Try.ntmps10
  go_upto_region 1 with fail
  rw [← hb0, ← hb1, ← hW0]
  clear hb0 hb1 hW0
  go_upto_region 2 with (first | (refine load_blk 27 _ Try.underlying27 (by kernel_rfl) F0.out rfl rfl rfl ?_) | (go_at_call 25; refine (implFault_any h _).mono ?_; rw [HA.out]; rintro e w1 ⟨rfl, hb⟩; have F0 : Hid (Blk w1 b0 [.int .i64 h.fl, .int .i64 h.gp, .int .i64 h.ln, .int .i64 h.rf, .int .i64 h.sp, .int .i64 h.pu, .int .i64 h.br, .int .i64 h.dr, .int .i64 h.lv, .int .i64 h.dO, .int .i64 h.ld, .int .i64 h.qu]) := F0.out.below hb F0.out.lt; have F1 : Hid (Blk w1 b1 [.int .i64 0, .int .i64 0]) := F1.out.below hb F1.out.lt; have FB : Hid (Below w.heap.size w w1) := FB.out.trans (hb.mono FB.out.size); clear hb))
  have c00 := F0.out.c 0 _ rfl
  by_cases hz : ka = 0
  case neg =>
    have hn : (ka != 0) = true := by simpa using hz
    have HZ : Hid (ka = K ∧ 0 = V) := ⟨by rw [← HK.out]; unfold Hs.ftK; rw [HA.out, if_neg hz], by rw [← HV.out]; unfold Hs.ftV; rw [HA.out, if_neg hz]⟩
    go_wp2_with (refine store_blk [.int .i64 ka, .int .i64 0] 25 _ _ (by kernel_rfl) (by kernel_rfl) (by kernel_rfl) F1.out rfl rfl rfl rfl ?_)
    exact bodyPost_ret (v := .agg #[.int .i64 ka, .int .i64 0]) ((F1.out.row [.int .i64 ka, .int .i64 0]).res _ Try.results10 Try.underlying25 (by kernel_rfl) rfl) rfl ⟨ret_twoF HZ.out.1 HZ.out.2, below_row FB.out leb1 _⟩
  case pos =>
  subst hz
  cases hf : inB a (-1) h.fl with
  | false =>
    have HZ : Hid (3 = K ∧ 0 = V) := ⟨by rw [← HK.out]; unfold Hs.ftK; rw [HA.out, if_pos rfl, if_neg (by simp [hf])], by rw [← HV.out]; unfold Hs.ftV; rw [HA.out, if_pos rfl, if_neg (by simp [hf])]⟩
    go_wp2_with (first | (refine load_blk 27 _ Try.underlying27 (by kernel_rfl) F0.out rfl rfl rfl ?_) | (go_at_call 26; (fail_if_success have := GF); refine (hasPlace_any h a _).mono ?_; rw [hf]; rintro e w2 ⟨rfl, hb⟩; have F0 : Hid (Blk w2 b0 [.int .i64 h.fl, .int .i64 h.gp, .int .i64 h.ln, .int .i64 h.rf, .int .i64 h.sp, .int .i64 h.pu, .int .i64 h.br, .int .i64 h.dr, .int .i64 h.lv, .int .i64 h.dO, .int .i64 h.ld, .int .i64 h.qu]) := F0.out.below hb F0.out.lt; have F1 : Hid (Blk w2 b1 [.int .i64 0, .int .i64 0]) := F1.out.below hb F1.out.lt; have FB : Hid (Below w.heap.size w w2) := FB.out.trans (hb.mono FB.out.size); clear hb; have GF := trivial) | (refine store_blk [.int .i64 3, .int .i64 0] 25 _ _ (by kernel_rfl) (by kernel_rfl) (by kernel_rfl) F1.out rfl rfl rfl rfl ?_))
    exact bodyPost_ret (v := .agg #[.int .i64 3, .int .i64 0]) ((F1.out.row [.int .i64 3, .int .i64 0]).res _ Try.results10 Try.underlying25 (by kernel_rfl) rfl) rfl ⟨ret_twoF HZ.out.1 HZ.out.2, below_row FB.out leb1 _⟩
  | true =>
    cases ht : inB b (-1) h.fl with
    | false =>
      have HZ : Hid (3 = K ∧ 0 = V) := ⟨by rw [← HK.out]; unfold Hs.ftK; rw [HA.out, if_pos rfl, if_neg (by simp [ht])], by rw [← HV.out]; unfold Hs.ftV; rw [HA.out, if_pos rfl, if_neg (by simp [ht])]⟩
      go_wp2_with (first | (refine load_blk 27 _ Try.underlying27 (by kernel_rfl) F0.out rfl rfl rfl ?_) | (refine load_blkF 27 _ Try.underlying27 (by kernel_rfl) F0.out (by kernel_rfl) rfl rfl ?_) | (go_at_call 26; (fail_if_success have := GF); refine (hasPlace_any h a _).mono ?_; rw [hf]; rintro e w2 ⟨rfl, hb⟩; have F0 : Hid (Blk w2 b0 [.int .i64 h.fl, .int .i64 h.gp, .int .i64 h.ln, .int .i64 h.rf, .int .i64 h.sp, .int .i64 h.pu, .int .i64 h.br, .int .i64 h.dr, .int .i64 h.lv, .int .i64 h.dO, .int .i64 h.ld, .int .i64 h.qu]) := F0.out.below hb F0.out.lt; have F1 : Hid (Blk w2 b1 [.int .i64 0, .int .i64 0]) := F1.out.below hb F1.out.lt; have FB : Hid (Below w.heap.size w w2) := FB.out.trans (hb.mono FB.out.size); clear hb; have GF := trivial) | (go_at_call 26; refine (hasPlace_any h b _).mono ?_; rw [ht]; rintro e w3 ⟨rfl, hb⟩; have F0 : Hid (Blk w3 b0 [.int .i64 h.fl, .int .i64 h.gp, .int .i64 h.ln, .int .i64 h.rf, .int .i64 h.sp, .int .i64 h.pu, .int .i64 h.br, .int .i64 h.dr, .int .i64 h.lv, .int .i64 h.dO, .int .i64 h.ld, .int .i64 h.qu]) := F0.out.below hb F0.out.lt; have F1 : Hid (Blk w3 b1 [.int .i64 0, .int .i64 0]) := F1.out.below hb F1.out.lt; have FB : Hid (Below w.heap.size w w3) := FB.out.trans (hb.mono FB.out.size); clear hb) | (refine store_blk [.int .i64 3, .int .i64 0] 25 _ _ (by kernel_rfl) (by kernel_rfl) (by kernel_rfl) F1.out rfl rfl rfl rfl ?_))
      exact bodyPost_ret (v := .agg #[.int .i64 3, .int .i64 0]) ((F1.out.row [.int .i64 3, .int .i64 0]).res _ Try.results10 Try.underlying25 (by kernel_rfl) rfl) rfl ⟨ret_twoF HZ.out.1 HZ.out.2, below_row FB.out leb1 _⟩
    | true =>
      have f1 := inB_iff.1 hf
      have f2 := inB_iff.1 ht
      have HK2 : Hid (Hs.fltK h a b = K) := by show _ = K; rw [← HK.out]; unfold Hs.ftK; rw [HA.out, if_pos rfl, if_pos ⟨hf, ht⟩]
      have HV2 : Hid (Hs.fltN h a b = V) := by show _ = V; rw [← HV.out]; unfold Hs.ftV; rw [HA.out, if_pos rfl, if_pos ⟨hf, ht⟩]
      obtain ⟨g, e1, hg, e3⟩ := flt_run HA.out f1.1 f1.2 f2.1 f2.2
      obtain ⟨N, hN⟩ : ∃ N, flN h 3000 (absI (h.level b - h.level a)) 0 = N := ⟨_, rfl⟩
      have HT1 : Hid (Hs.fltB h a b = true → 0 = K ∧ N = V) := fun z => by have y := flt_there z hN; rw [HK2.out, HV2.out] at y; exact ⟨y.1.symm, y.2.symm⟩
      have HT2 : Hid (Hs.fltB h a b = false → 2 = K ∧ 0 = V) := fun z => by have y := flt_not z; rw [HK2.out, HV2.out] at y; exact ⟨y.1.symm, y.2.symm⟩
      rw [hN] at e1
      have HO : Hid h.Ok := Hs.ok_of (Hs.fault_zero HA.out).1
      have fr := car_far hg
      have dr := level_in HO.out f1.1 f1.2
      obtain ⟨B, hB⟩ : ∃ B, Hs.fltB h a b = B := ⟨_, rfl⟩
      rw [hB] at e3 HT1 HT2
      have hcar : h.car ⟨h.level a, 0, 0⟩ = 0 := by rw [Hs.car_ok HA.out]; exact (flt_start HA.out (b := b) f1.1 f1.2).car HA.out f2.1 f2.2
      obtain ⟨L, hL⟩ : ∃ L, h.level a = L := ⟨_, rfl⟩
      have CP : ∀ W, Calls Try.prog 28 #[.agg #[.int .i64 h.fl, .int .i64 h.gp, .int .i64 h.ln, .int .i64 h.rf, .int .i64 h.sp, .int .i64 h.pu, .int .i64 h.br, .int .i64 h.dr, .int .i64 h.lv, .int .i64 h.dO, .int .i64 h.ld, .int .i64 h.qu], .int .i64 a] W fun e w' => e = .returned (.int .i64 L) ∧ Below W.heap.size W w' := fun W => by have z := placeOf_any h HO.out a f1.1 f1.2 W; rw [hL] at z; exact z
      rw [hL] at e1 hcar
      have CR : ∀ W, Calls Try.prog 27 #[.agg #[.int .i64 h.fl, .int .i64 h.gp, .int .i64 h.ln, .int .i64 h.rf, .int .i64 h.sp, .int .i64 h.pu, .int .i64 h.br, .int .i64 h.dr, .int .i64 h.lv, .int .i64 h.dO, .int .i64 h.ld, .int .i64 h.qu], .agg #[.int .i64 L, .int .i64 0, .int .i64 0], .int .i64 b, .int .i64 3000] W (isRun W 0 N g) := fun W => implRunTo_yes h ⟨L, 0, 0⟩ b 3000 hcar ht (by decide) rfl (0, N, g) e1 W
      have CA : ∀ W, Calls Try.prog 29 #[.agg #[.int .i64 h.fl, .int .i64 h.gp, .int .i64 h.ln, .int .i64 h.rf, .int .i64 h.sp, .int .i64 h.pu, .int .i64 h.br, .int .i64 h.dr, .int .i64 h.lv, .int .i64 h.dO, .int .i64 h.ld, .int .i64 h.qu], .agg #[.int .i64 g.pos, .int .i64 g.vel, .int .i64 g.door], .int .i64 b] W fun e w' => e = .returned (.bool B) ∧ Below W.heap.size W w' := fun W => by have z := isAtRest_any h HO.out g b f2.1 f2.2 (by omega) (by omega) W; rw [e3] at z; exact z
      clear HK HV HK2 HV2 e1 e3 hg hN hB hcar hL dr fr
      go_upto_region 6 with (first | (refine load_blk 27 _ Try.underlying27 (by kernel_rfl) F0.out rfl rfl rfl ?_) | (refine load_blk 27 _ Try.underlying27 (by kernel_rfl) F0.out rfl rfl rfl ?_) | (refine load_blkF 27 _ Try.underlying27 (by kernel_rfl) F0.out (by kernel_rfl) rfl rfl ?_) | (go_at_call 26; (fail_if_success have := GF); refine (hasPlace_any h a _).mono ?_; rw [hf]; rintro e w2 ⟨rfl, hb⟩; have F0 : Hid (Blk w2 b0 [.int .i64 h.fl, .int .i64 h.gp, .int .i64 h.ln, .int .i64 h.rf, .int .i64 h.sp, .int .i64 h.pu, .int .i64 h.br, .int .i64 h.dr, .int .i64 h.lv, .int .i64 h.dO, .int .i64 h.ld, .int .i64 h.qu]) := F0.out.below hb F0.out.lt; have F1 : Hid (Blk w2 b1 [.int .i64 0, .int .i64 0]) := F1.out.below hb F1.out.lt; have FB : Hid (Below w.heap.size w w2) := FB.out.trans (hb.mono FB.out.size); clear hb; have GF := trivial) | (go_at_call 26; refine (hasPlace_any h b _).mono ?_; rw [ht]; rintro e w3 ⟨rfl, hb⟩; have F0 : Hid (Blk w3 b0 [.int .i64 h.fl, .int .i64 h.gp, .int .i64 h.ln, .int .i64 h.rf, .int .i64 h.sp, .int .i64 h.pu, .int .i64 h.br, .int .i64 h.dr, .int .i64 h.lv, .int .i64 h.dO, .int .i64 h.ld, .int .i64 h.qu]) := F0.out.below hb F0.out.lt; have F1 : Hid (Blk w3 b1 [.int .i64 0, .int .i64 0]) := F1.out.below hb F1.out.lt; have FB : Hid (Below w.heap.size w w3) := FB.out.trans (hb.mono FB.out.size); clear hb))
      go_cut [8] from 26 to 49 (fun p wx => ∃ b2, p = .pointer (some ⟨b2, 0, none⟩) ∧ b1 < b2 ∧ Blk wx b2 [.int .i64 0, .int .i64 N, .int .i64 g.pos, .int .i64 g.vel, .int .i64 g.door] ∧ Blk wx b0 [.int .i64 h.fl, .int .i64 h.gp, .int .i64 h.ln, .int .i64 h.rf, .int .i64 h.sp, .int .i64 h.pu, .int .i64 h.br, .int .i64 h.dr, .int .i64 h.lv, .int .i64 h.dO, .int .i64 h.ld, .int .i64 h.qu] ∧ Blk wx b1 [.int .i64 0, .int .i64 0] ∧ Below w.heap.size w wx)
      case first =>
        have F0 : Hid (Blk w3.drew b0 [.int .i64 h.fl, .int .i64 h.gp, .int .i64 h.ln, .int .i64 h.rf, .int .i64 h.sp, .int .i64 h.pu, .int .i64 h.br, .int .i64 h.dr, .int .i64 h.lv, .int .i64 h.dO, .int .i64 h.ld, .int .i64 h.qu]) := F0.out.below (Below.refl _ _).drew F0.out.lt
        have F1 : Hid (Blk w3.drew b1 [.int .i64 0, .int .i64 0]) := F1.out.below (Below.refl _ _).drew F1.out.lt
        have FB : Hid (Below w.heap.size w w3.drew) := FB.out.drew
        refine wp_region_held_drew (S := (fun w'' => Blk w'' b0 ([.int .i64 h.fl, .int .i64 h.gp, .int .i64 h.ln, .int .i64 h.rf, .int .i64 h.sp, .int .i64 h.pu, .int .i64 h.br, .int .i64 h.dr, .int .i64 h.lv, .int .i64 h.dO, .int .i64 h.ld, .int .i64 h.qu]))) (by kernel_rfl) (by (try dsimp only); first | exact F0.out | go_keep) (fun hHeld => ?_)
        obtain ⟨v_1, hw1⟩ : ∃ v_1, v_1 = w3.drew := ⟨_, rfl⟩
        have F0 : Hid (Blk v_1 b0 [.int .i64 h.fl, .int .i64 h.gp, .int .i64 h.ln, .int .i64 h.rf, .int .i64 h.sp, .int .i64 h.pu, .int .i64 h.br, .int .i64 h.dr, .int .i64 h.lv, .int .i64 h.dO, .int .i64 h.ld, .int .i64 h.qu]) := by rw [hw1]; exact F0.out
        have F1 : Hid (Blk v_1 b1 [.int .i64 0, .int .i64 0]) := by rw [hw1]; exact F1.out
        have FB : Hid (Below w.heap.size w v_1) := by rw [hw1]; exact FB.out
        rw [← hw1] at hHeld ⊢
        clear hw1
        refine tkz 0 rfl ?_ (hy := Or.inl ⟨by kernel_rfl, fun wx hSw => exec_load_blk 27 _ Try.underlying27 (by kernel_rfl) rfl rfl hSw⟩)
        refine tkz 1 rfl ?_ (hy := Or.inl ⟨by kernel_rfl, fun wx hSw => exec_load_blk 27 _ Try.underlying27 (by kernel_rfl) rfl rfl hSw⟩)
        refine tkz 2 rfl ?_
        refine tkz 5 rfl ?_
        refine wpAnyH_ready (rs := [3, 7]) (by kernel_rfl) (by simp) ?_
        refine (AllReadyH.cons rfl (fun K hK => ?_) (AllReadyH.cons rfl (fun K hK => ?_) AllReadyH.nil))
        · go_simp
          refine (CP _).mono ?_
          rintro e v_2 ⟨rfl, hb⟩
          have F0 : Hid (Blk v_2 b0 [.int .i64 h.fl, .int .i64 h.gp, .int .i64 h.ln, .int .i64 h.rf, .int .i64 h.sp, .int .i64 h.pu, .int .i64 h.br, .int .i64 h.dr, .int .i64 h.lv, .int .i64 h.dO, .int .i64 h.ld, .int .i64 h.qu]) := F0.out.below hb F0.out.lt
          have F1 : Hid (Blk v_2 b1 [.int .i64 0, .int .i64 0]) := F1.out.below hb F1.out.lt
          have FB : Hid (Below w.heap.size w v_2) := FB.out.trans (hb.mono FB.out.size)
          clear hb
          try dsimp only
          refine hK.out _ _ (by (try dsimp only); first | exact F0.out | go_keep) (fun hHeld => ?_)
          clear hK K
          try simp only [Act.put, List.getElem_toArray, List.getElem_cons_succ, List.getElem_cons_zero, List.setIfInBounds_toArray, List.set_cons_zero, List.set_cons_succ]
          refine tkz 4 rfl ?_
          refine wpAnyH_ready (rs := [6, 7]) (by kernel_rfl) (by simp) ?_
          refine (AllReadyH.cons rfl (fun K hK => ?_) (AllReadyH.cons rfl (fun K hK => ?_) AllReadyH.nil))
          · go_simp
            refine (CR _).mono ?_
            rintro e v_3 ⟨rfl, hb⟩
            have F0 : Hid (Blk v_3 b0 [.int .i64 h.fl, .int .i64 h.gp, .int .i64 h.ln, .int .i64 h.rf, .int .i64 h.sp, .int .i64 h.pu, .int .i64 h.br, .int .i64 h.dr, .int .i64 h.lv, .int .i64 h.dO, .int .i64 h.ld, .int .i64 h.qu]) := F0.out.below hb F0.out.lt
            have F1 : Hid (Blk v_3 b1 [.int .i64 0, .int .i64 0]) := F1.out.below hb F1.out.lt
            have FB : Hid (Below w.heap.size w v_3) := FB.out.trans (hb.mono FB.out.size)
            clear hb
            try dsimp only
            refine hK.out _ _ (by (try dsimp only); first | exact F0.out | go_keep) (fun hHeld => ?_)
            clear hK K
            try simp only [Act.put, List.getElem_toArray, List.getElem_cons_succ, List.getElem_cons_zero, List.setIfInBounds_toArray, List.set_cons_zero, List.set_cons_succ]
            refine wpAnyH_ready (rs := [7]) (by kernel_rfl) (by simp) ?_
            refine (AllReadyH.cons rfl (fun K hK => ?_) AllReadyH.nil)
            go_simp
            obtain ⟨b2, hbb⟩ : ∃ b2, b2 = v_3.heap.size := ⟨_, rfl⟩
            obtain ⟨v_4, hw2⟩ : ∃ v_4, v_4 = v_3.alloc (.cells #[.int .i64 0, .int .i64 0, .int .i64 0, .int .i64 0, .int .i64 0] 46) := ⟨_, rfl⟩
            have nb2_0 := F0.out.lt
            rw [← hbb] at nb2_0
            have nb2_1 := F1.out.lt
            rw [← hbb] at nb2_1
            have F2 : Hid (Blk v_4 b2 [.int .i64 0, .int .i64 0, .int .i64 0, .int .i64 0, .int .i64 0]) := by rw [hw2]; exact Blk.at_ v_3 #[.int .i64 0, .int .i64 0, .int .i64 0, .int .i64 0, .int .i64 0] _ _ hbb
            have F0 : Hid (Blk v_4 b0 [.int .i64 h.fl, .int .i64 h.gp, .int .i64 h.ln, .int .i64 h.rf, .int .i64 h.sp, .int .i64 h.pu, .int .i64 h.br, .int .i64 h.dr, .int .i64 h.lv, .int .i64 h.dO, .int .i64 h.ld, .int .i64 h.qu]) := by rw [hw2]; exact F0.out.alloc _
            have F1 : Hid (Blk v_4 b1 [.int .i64 0, .int .i64 0]) := by rw [hw2]; exact F1.out.alloc _
            have FB : Hid (Below w.heap.size w v_4) := by rw [hw2]; exact FB.out.alloc FB.out.size _
            rw [← hw2, ← hbb]
            clear hbb hw2
            refine hK.out _ _ (by (try dsimp only); first | exact F0.out | go_keep) (fun hHeld => ?_)
            clear hK K
            try simp only [Act.put, List.getElem_toArray, List.getElem_cons_succ, List.getElem_cons_zero, List.setIfInBounds_toArray, List.set_cons_zero, List.set_cons_succ]
            refine wpAnyH_ready (rs := [8]) (by kernel_rfl) (by simp) ?_
            refine (AllReadyH.cons rfl (fun K hK => ?_) AllReadyH.nil)
            have k0 := F2.out.c 0 _ rfl
            have k1 := F2.out.c 1 _ rfl
            have k2 := F2.out.c 2 _ rfl
            have k3 := F2.out.c 3 _ rfl
            have k4 := F2.out.c 4 _ rfl
            have kf0 := F2.out.f 0 (Nat.le_of_ble_eq_true rfl)
            have kf1 := F2.out.f 1 (Nat.le_of_ble_eq_true rfl)
            have kf2 := F2.out.f 2 (Nat.le_of_ble_eq_true rfl)
            have kf3 := F2.out.f 3 (Nat.le_of_ble_eq_true rfl)
            have kf4 := F2.out.f 4 (Nat.le_of_ble_eq_true rfl)
            go_simp
            obtain ⟨v_5, hw2⟩ : ∃ v_5, v_5 = putB v_4 b2 0 [.int .i64 0, .int .i64 N, .int .i64 g.pos, .int .i64 g.vel, .int .i64 g.door] := ⟨_, rfl⟩
            change K _ (putB v_4 b2 0 [.int .i64 0, .int .i64 N, .int .i64 g.pos, .int .i64 g.vel, .int .i64 g.door])
            rw [← hw2]
            clear k0 kf0 k1 kf1 k2 kf2 k3 kf3 k4 kf4
            have F0 : Hid (Blk v_5 b0 [.int .i64 h.fl, .int .i64 h.gp, .int .i64 h.ln, .int .i64 h.rf, .int .i64 h.sp, .int .i64 h.pu, .int .i64 h.br, .int .i64 h.dr, .int .i64 h.lv, .int .i64 h.dO, .int .i64 h.ld, .int .i64 h.qu]) := by rw [hw2]; exact Blk.putB_other (by omega) _ 0 F0.out
            have F1 : Hid (Blk v_5 b1 [.int .i64 0, .int .i64 0]) := by rw [hw2]; exact Blk.putB_other (by omega) _ 0 F1.out
            have FB : Hid (Below w.heap.size w v_5) := by rw [hw2]; exact below_putB FB.out (by omega) _ 0
            have F2 : Hid (Blk v_5 b2 [.int .i64 0, .int .i64 N, .int .i64 g.pos, .int .i64 g.vel, .int .i64 g.door]) := by rw [hw2]; exact F2.out.put [.int .i64 0, .int .i64 N, .int .i64 g.pos, .int .i64 g.vel, .int .i64 g.door] rfl
            clear hw2
            refine hK.out _ _ (by (try dsimp only); first | exact F0.out | go_keep) (fun hHeld => ?_)
            clear hK K
            try simp only [Act.put, List.getElem_toArray, List.getElem_cons_succ, List.getElem_cons_zero, List.setIfInBounds_toArray, List.set_cons_zero, List.set_cons_succ]
            refine wpAnyH_done (by kernel_rfl) ?_ _
            go_wp2_with fail
            go_meet
            case rel => exact ⟨b2, rfl, by omega, F2.out, F0.out, F1.out, FB.out⟩
          · go_simp
            obtain ⟨b2, hbb⟩ : ∃ b2, b2 = v_2.heap.size := ⟨_, rfl⟩
            obtain ⟨v_6, hw2⟩ : ∃ v_6, v_6 = v_2.alloc (.cells #[.int .i64 0, .int .i64 0, .int .i64 0, .int .i64 0, .int .i64 0] 46) := ⟨_, rfl⟩
            have nb2_0 := F0.out.lt
            rw [← hbb] at nb2_0
            have nb2_1 := F1.out.lt
            rw [← hbb] at nb2_1
            have F2 : Hid (Blk v_6 b2 [.int .i64 0, .int .i64 0, .int .i64 0, .int .i64 0, .int .i64 0]) := by rw [hw2]; exact Blk.at_ v_2 #[.int .i64 0, .int .i64 0, .int .i64 0, .int .i64 0, .int .i64 0] _ _ hbb
            have F0 : Hid (Blk v_6 b0 [.int .i64 h.fl, .int .i64 h.gp, .int .i64 h.ln, .int .i64 h.rf, .int .i64 h.sp, .int .i64 h.pu, .int .i64 h.br, .int .i64 h.dr, .int .i64 h.lv, .int .i64 h.dO, .int .i64 h.ld, .int .i64 h.qu]) := by rw [hw2]; exact F0.out.alloc _
            have F1 : Hid (Blk v_6 b1 [.int .i64 0, .int .i64 0]) := by rw [hw2]; exact F1.out.alloc _
            have FB : Hid (Below w.heap.size w v_6) := by rw [hw2]; exact FB.out.alloc FB.out.size _
            rw [← hw2, ← hbb]
            clear hbb hw2
            refine hK.out _ _ (by (try dsimp only); first | exact F0.out | go_keep) (fun hHeld => ?_)
            clear hK K
            try simp only [Act.put, List.getElem_toArray, List.getElem_cons_succ, List.getElem_cons_zero, List.setIfInBounds_toArray, List.set_cons_zero, List.set_cons_succ]
            refine wpAnyH_ready (rs := [6]) (by kernel_rfl) (by simp) ?_
            refine (AllReadyH.cons rfl (fun K hK => ?_) AllReadyH.nil)
            go_simp
            refine (CR _).mono ?_
            rintro e v_7 ⟨rfl, hb⟩
            have F0 : Hid (Blk v_7 b0 [.int .i64 h.fl, .int .i64 h.gp, .int .i64 h.ln, .int .i64 h.rf, .int .i64 h.sp, .int .i64 h.pu, .int .i64 h.br, .int .i64 h.dr, .int .i64 h.lv, .int .i64 h.dO, .int .i64 h.ld, .int .i64 h.qu]) := F0.out.below hb F0.out.lt
            have F1 : Hid (Blk v_7 b1 [.int .i64 0, .int .i64 0]) := F1.out.below hb F1.out.lt
            have FB : Hid (Below w.heap.size w v_7) := FB.out.trans (hb.mono FB.out.size)
            have F2 : Hid (Blk v_7 b2 [.int .i64 0, .int .i64 0, .int .i64 0, .int .i64 0, .int .i64 0]) := F2.out.below hb F2.out.lt
            clear hb
            try dsimp only
            refine hK.out _ _ (by (try dsimp only); first | exact F0.out | go_keep) (fun hHeld => ?_)
            clear hK K
            try simp only [Act.put, List.getElem_toArray, List.getElem_cons_succ, List.getElem_cons_zero, List.setIfInBounds_toArray, List.set_cons_zero, List.set_cons_succ]
            refine wpAnyH_ready (rs := [8]) (by kernel_rfl) (by simp) ?_
            refine (AllReadyH.cons rfl (fun K hK => ?_) AllReadyH.nil)
            have k0 := F2.out.c 0 _ rfl
            have k1 := F2.out.c 1 _ rfl
            have k2 := F2.out.c 2 _ rfl
            have k3 := F2.out.c 3 _ rfl
            have k4 := F2.out.c 4 _ rfl
            have kf0 := F2.out.f 0 (Nat.le_of_ble_eq_true rfl)
            have kf1 := F2.out.f 1 (Nat.le_of_ble_eq_true rfl)
            have kf2 := F2.out.f 2 (Nat.le_of_ble_eq_true rfl)
            have kf3 := F2.out.f 3 (Nat.le_of_ble_eq_true rfl)
            have kf4 := F2.out.f 4 (Nat.le_of_ble_eq_true rfl)
            go_simp
            obtain ⟨v_8, hw2⟩ : ∃ v_8, v_8 = putB v_7 b2 0 [.int .i64 0, .int .i64 N, .int .i64 g.pos, .int .i64 g.vel, .int .i64 g.door] := ⟨_, rfl⟩
            change K _ (putB v_7 b2 0 [.int .i64 0, .int .i64 N, .int .i64 g.pos, .int .i64 g.vel, .int .i64 g.door])
            rw [← hw2]
            clear k0 kf0 k1 kf1 k2 kf2 k3 kf3 k4 kf4
            have F0 : Hid (Blk v_8 b0 [.int .i64 h.fl, .int .i64 h.gp, .int .i64 h.ln, .int .i64 h.rf, .int .i64 h.sp, .int .i64 h.pu, .int .i64 h.br, .int .i64 h.dr, .int .i64 h.lv, .int .i64 h.dO, .int .i64 h.ld, .int .i64 h.qu]) := by rw [hw2]; exact Blk.putB_other (by omega) _ 0 F0.out
            have F1 : Hid (Blk v_8 b1 [.int .i64 0, .int .i64 0]) := by rw [hw2]; exact Blk.putB_other (by omega) _ 0 F1.out
            have FB : Hid (Below w.heap.size w v_8) := by rw [hw2]; exact below_putB FB.out (by omega) _ 0
            have F2 : Hid (Blk v_8 b2 [.int .i64 0, .int .i64 N, .int .i64 g.pos, .int .i64 g.vel, .int .i64 g.door]) := by rw [hw2]; exact F2.out.put [.int .i64 0, .int .i64 N, .int .i64 g.pos, .int .i64 g.vel, .int .i64 g.door] rfl
            clear hw2
            refine hK.out _ _ (by (try dsimp only); first | exact F0.out | go_keep) (fun hHeld => ?_)
            clear hK K
            try simp only [Act.put, List.getElem_toArray, List.getElem_cons_succ, List.getElem_cons_zero, List.setIfInBounds_toArray, List.set_cons_zero, List.set_cons_succ]
            refine wpAnyH_done (by kernel_rfl) ?_ _
            go_wp2_with fail
            go_meet
            case rel => exact ⟨b2, rfl, by omega, F2.out, F0.out, F1.out, FB.out⟩
        · go_simp
          obtain ⟨b2, hbb⟩ : ∃ b2, b2 = v_1.heap.size := ⟨_, rfl⟩
          obtain ⟨v_9, hw2⟩ : ∃ v_9, v_9 = v_1.alloc (.cells #[.int .i64 0, .int .i64 0, .int .i64 0, .int .i64 0, .int .i64 0] 46) := ⟨_, rfl⟩
          have nb2_0 := F0.out.lt
          rw [← hbb] at nb2_0
          have nb2_1 := F1.out.lt
          rw [← hbb] at nb2_1
          have F2 : Hid (Blk v_9 b2 [.int .i64 0, .int .i64 0, .int .i64 0, .int .i64 0, .int .i64 0]) := by rw [hw2]; exact Blk.at_ v_1 #[.int .i64 0, .int .i64 0, .int .i64 0, .int .i64 0, .int .i64 0] _ _ hbb
          have F0 : Hid (Blk v_9 b0 [.int .i64 h.fl, .int .i64 h.gp, .int .i64 h.ln, .int .i64 h.rf, .int .i64 h.sp, .int .i64 h.pu, .int .i64 h.br, .int .i64 h.dr, .int .i64 h.lv, .int .i64 h.dO, .int .i64 h.ld, .int .i64 h.qu]) := by rw [hw2]; exact F0.out.alloc _
          have F1 : Hid (Blk v_9 b1 [.int .i64 0, .int .i64 0]) := by rw [hw2]; exact F1.out.alloc _
          have FB : Hid (Below w.heap.size w v_9) := by rw [hw2]; exact FB.out.alloc FB.out.size _
          rw [← hw2, ← hbb]
          clear hbb hw2
          refine hK.out _ _ (by (try dsimp only); first | exact F0.out | go_keep) (fun hHeld => ?_)
          clear hK K
          try simp only [Act.put, List.getElem_toArray, List.getElem_cons_succ, List.getElem_cons_zero, List.setIfInBounds_toArray, List.set_cons_zero, List.set_cons_succ]
          refine wpAnyH_ready (rs := [3]) (by kernel_rfl) (by simp) ?_
          refine (AllReadyH.cons rfl (fun K hK => ?_) AllReadyH.nil)
          go_simp
          refine (CP _).mono ?_
          rintro e v_10 ⟨rfl, hb⟩
          have F0 : Hid (Blk v_10 b0 [.int .i64 h.fl, .int .i64 h.gp, .int .i64 h.ln, .int .i64 h.rf, .int .i64 h.sp, .int .i64 h.pu, .int .i64 h.br, .int .i64 h.dr, .int .i64 h.lv, .int .i64 h.dO, .int .i64 h.ld, .int .i64 h.qu]) := F0.out.below hb F0.out.lt
          have F1 : Hid (Blk v_10 b1 [.int .i64 0, .int .i64 0]) := F1.out.below hb F1.out.lt
          have FB : Hid (Below w.heap.size w v_10) := FB.out.trans (hb.mono FB.out.size)
          have F2 : Hid (Blk v_10 b2 [.int .i64 0, .int .i64 0, .int .i64 0, .int .i64 0, .int .i64 0]) := F2.out.below hb F2.out.lt
          clear hb
          try dsimp only
          refine hK.out _ _ (by (try dsimp only); first | exact F0.out | go_keep) (fun hHeld => ?_)
          clear hK K
          try simp only [Act.put, List.getElem_toArray, List.getElem_cons_succ, List.getElem_cons_zero, List.setIfInBounds_toArray, List.set_cons_zero, List.set_cons_succ]
          refine tkz 4 rfl ?_
          refine wpAnyH_ready (rs := [6]) (by kernel_rfl) (by simp) ?_
          refine (AllReadyH.cons rfl (fun K hK => ?_) AllReadyH.nil)
          go_simp
          refine (CR _).mono ?_
          rintro e v_11 ⟨rfl, hb⟩
          have F0 : Hid (Blk v_11 b0 [.int .i64 h.fl, .int .i64 h.gp, .int .i64 h.ln, .int .i64 h.rf, .int .i64 h.sp, .int .i64 h.pu, .int .i64 h.br, .int .i64 h.dr, .int .i64 h.lv, .int .i64 h.dO, .int .i64 h.ld, .int .i64 h.qu]) := F0.out.below hb F0.out.lt
          have F1 : Hid (Blk v_11 b1 [.int .i64 0, .int .i64 0]) := F1.out.below hb F1.out.lt
          have FB : Hid (Below w.heap.size w v_11) := FB.out.trans (hb.mono FB.out.size)
          have F2 : Hid (Blk v_11 b2 [.int .i64 0, .int .i64 0, .int .i64 0, .int .i64 0, .int .i64 0]) := F2.out.below hb F2.out.lt
          clear hb
          try dsimp only
          refine hK.out _ _ (by (try dsimp only); first | exact F0.out | go_keep) (fun hHeld => ?_)
          clear hK K
          try simp only [Act.put, List.getElem_toArray, List.getElem_cons_succ, List.getElem_cons_zero, List.setIfInBounds_toArray, List.set_cons_zero, List.set_cons_succ]
          refine wpAnyH_ready (rs := [8]) (by kernel_rfl) (by simp) ?_
          refine (AllReadyH.cons rfl (fun K hK => ?_) AllReadyH.nil)
          have k0 := F2.out.c 0 _ rfl
          have k1 := F2.out.c 1 _ rfl
          have k2 := F2.out.c 2 _ rfl
          have k3 := F2.out.c 3 _ rfl
          have k4 := F2.out.c 4 _ rfl
          have kf0 := F2.out.f 0 (Nat.le_of_ble_eq_true rfl)
          have kf1 := F2.out.f 1 (Nat.le_of_ble_eq_true rfl)
          have kf2 := F2.out.f 2 (Nat.le_of_ble_eq_true rfl)
          have kf3 := F2.out.f 3 (Nat.le_of_ble_eq_true rfl)
          have kf4 := F2.out.f 4 (Nat.le_of_ble_eq_true rfl)
          go_simp
          obtain ⟨v_12, hw2⟩ : ∃ v_12, v_12 = putB v_11 b2 0 [.int .i64 0, .int .i64 N, .int .i64 g.pos, .int .i64 g.vel, .int .i64 g.door] := ⟨_, rfl⟩
          change K _ (putB v_11 b2 0 [.int .i64 0, .int .i64 N, .int .i64 g.pos, .int .i64 g.vel, .int .i64 g.door])
          rw [← hw2]
          clear k0 kf0 k1 kf1 k2 kf2 k3 kf3 k4 kf4
          have F0 : Hid (Blk v_12 b0 [.int .i64 h.fl, .int .i64 h.gp, .int .i64 h.ln, .int .i64 h.rf, .int .i64 h.sp, .int .i64 h.pu, .int .i64 h.br, .int .i64 h.dr, .int .i64 h.lv, .int .i64 h.dO, .int .i64 h.ld, .int .i64 h.qu]) := by rw [hw2]; exact Blk.putB_other (by omega) _ 0 F0.out
          have F1 : Hid (Blk v_12 b1 [.int .i64 0, .int .i64 0]) := by rw [hw2]; exact Blk.putB_other (by omega) _ 0 F1.out
          have FB : Hid (Below w.heap.size w v_12) := by rw [hw2]; exact below_putB FB.out (by omega) _ 0
          have F2 : Hid (Blk v_12 b2 [.int .i64 0, .int .i64 N, .int .i64 g.pos, .int .i64 g.vel, .int .i64 g.door]) := by rw [hw2]; exact F2.out.put [.int .i64 0, .int .i64 N, .int .i64 g.pos, .int .i64 g.vel, .int .i64 g.door] rfl
          clear hw2
          refine hK.out _ _ (by (try dsimp only); first | exact F0.out | go_keep) (fun hHeld => ?_)
          clear hK K
          try simp only [Act.put, List.getElem_toArray, List.getElem_cons_succ, List.getElem_cons_zero, List.setIfInBounds_toArray, List.set_cons_zero, List.set_cons_succ]
          refine wpAnyH_done (by kernel_rfl) ?_ _
          go_wp2_with fail
          go_meet
          case rel => exact ⟨b2, rfl, by omega, F2.out, F0.out, F1.out, FB.out⟩
      case rest =>
      obtain ⟨b2, rfl, n12, h_F2, h_F0, h_F1, hB⟩ := hcut
      have F2 : Hid (Blk wc b2 [.int .i64 0, .int .i64 N, .int .i64 g.pos, .int .i64 g.vel, .int .i64 g.door]) := h_F2
      clear h_F2
      have F0 : Hid (Blk wc b0 [.int .i64 h.fl, .int .i64 h.gp, .int .i64 h.ln, .int .i64 h.rf, .int .i64 h.sp, .int .i64 h.pu, .int .i64 h.br, .int .i64 h.dr, .int .i64 h.lv, .int .i64 h.dO, .int .i64 h.ld, .int .i64 h.qu]) := h_F0
      have F1 : Hid (Blk wc b1 [.int .i64 0, .int .i64 0]) := h_F1
      have FB : Hid (Below w.heap.size w wc) := hB
      clear h_F0 h_F1 hB
      clear CP CR
      have x0 := F2.out.c 0 _ rfl
      cases B with
      | true =>
        have HZ : Hid (0 = K ∧ N = V) := HT1.out rfl
        go_wp2_with (first | (refine load_blk 27 _ Try.underlying27 (by kernel_rfl) F0.out rfl rfl rfl ?_) | (refine load_midF 44 _ 2 [.int .i64 g.pos, .int .i64 g.vel, .int .i64 g.door] Try.underlying44 (by kernel_rfl) F2.out rfl rfl rfl rfl ?_) | (go_at_call 29; refine (CA _).mono ?_; rintro e w5 ⟨rfl, hb⟩; have F0 : Hid (Blk w5 b0 [.int .i64 h.fl, .int .i64 h.gp, .int .i64 h.ln, .int .i64 h.rf, .int .i64 h.sp, .int .i64 h.pu, .int .i64 h.br, .int .i64 h.dr, .int .i64 h.lv, .int .i64 h.dO, .int .i64 h.ld, .int .i64 h.qu]) := F0.out.below hb F0.out.lt; have F1 : Hid (Blk w5 b1 [.int .i64 0, .int .i64 0]) := F1.out.below hb F1.out.lt; have F2 : Hid (Blk w5 b2 [.int .i64 0, .int .i64 N, .int .i64 g.pos, .int .i64 g.vel, .int .i64 g.door]) := F2.out.below hb F2.out.lt; have FB : Hid (Below w.heap.size w w5) := FB.out.trans (hb.mono FB.out.size); clear hb; have x1 := F2.out.c 1 _ rfl) | (refine store_blk [.int .i64 0, .int .i64 N] 25 _ _ (by kernel_rfl) (by kernel_rfl) (by kernel_rfl) F1.out rfl rfl rfl rfl ?_))
        exact bodyPost_ret (v := .agg #[.int .i64 0, .int .i64 N]) ((F1.out.row [.int .i64 0, .int .i64 N]).res _ Try.results10 Try.underlying25 (by kernel_rfl) rfl) rfl ⟨ret_twoF HZ.out.1 HZ.out.2, below_row FB.out leb1 _⟩
      | false =>
        have HZ : Hid (2 = K ∧ 0 = V) := HT2.out rfl
        go_wp2_with (first | (refine load_blk 27 _ Try.underlying27 (by kernel_rfl) F0.out rfl rfl rfl ?_) | (refine load_midF 44 _ 2 [.int .i64 g.pos, .int .i64 g.vel, .int .i64 g.door] Try.underlying44 (by kernel_rfl) F2.out rfl rfl rfl rfl ?_) | (go_at_call 29; refine (CA _).mono ?_; rintro e w5 ⟨rfl, hb⟩; have F0 : Hid (Blk w5 b0 [.int .i64 h.fl, .int .i64 h.gp, .int .i64 h.ln, .int .i64 h.rf, .int .i64 h.sp, .int .i64 h.pu, .int .i64 h.br, .int .i64 h.dr, .int .i64 h.lv, .int .i64 h.dO, .int .i64 h.ld, .int .i64 h.qu]) := F0.out.below hb F0.out.lt; have F1 : Hid (Blk w5 b1 [.int .i64 0, .int .i64 0]) := F1.out.below hb F1.out.lt; have F2 : Hid (Blk w5 b2 [.int .i64 0, .int .i64 N, .int .i64 g.pos, .int .i64 g.vel, .int .i64 g.door]) := F2.out.below hb F2.out.lt; have FB : Hid (Below w.heap.size w w5) := FB.out.trans (hb.mono FB.out.size); clear hb) | (refine store_blk [.int .i64 2, .int .i64 0] 25 _ _ (by kernel_rfl) (by kernel_rfl) (by kernel_rfl) F1.out rfl rfl rfl rfl ?_))
        exact bodyPost_ret (v := .agg #[.int .i64 2, .int .i64 0]) ((F1.out.row [.int .i64 2, .int .i64 0]).res _ Try.results10 Try.underlying25 (by kernel_rfl) rfl) rfl ⟨ret_twoF HZ.out.1 HZ.out.2, below_row FB.out leb1 _⟩
end Go.Proofs.Ythfnphbgjfcdaaa
