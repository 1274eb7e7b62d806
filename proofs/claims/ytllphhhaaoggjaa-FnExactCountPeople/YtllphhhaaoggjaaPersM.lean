/-
  The model's ledger: CountPeople, LoadOf.
-/
import Derived.Test.YtllphhhaaoggjaaLedJ
import Derived.BigGuardPart
import Derived.OwnWalk
namespace Go.Proofs.Ytllphhhaaoggjaa
open Go.RowKit Pl
set_option linter.unusedSimpArgs false
set_option linter.unusedVariables false

theorem owi_empty (w : World) (B : Nat) (hB : B ≤ w.heap.size) : OwI (w.alloc (.cells #[] 2)) B (.slice (some ⟨w.heap.size, 0, none⟩) 0 0) [] :=
  World.ownsRow_made (base := B) (e := 2) (size := 1) w #[] 0 hB (by unfold maxLen; omega) rfl
theorem cnts_take {l : List Pe} {k : Nat} (hk : k < 5) : (cnts l).take (k + 1) = (cnts l).take k ++ [(cnt (k : Int) (-1) 0 l : Int)] := by
  have : k = 0 ∨ k = 1 ∨ k = 2 ∨ k = 3 ∨ k = 4 := by omega
  rcases this with rfl | rfl | rfl | rfl | rfl <;> rfl
theorem owi_more {w' : World} {B : Nat} {v : Value} {l : List Int} {x : Int} (h : w'.ownsRow B 2 1 v (l.length + 1) (intsV l ++ [.int .i64 x])) : OwI w' B v (l ++ [x]) := by
  unfold OwI
  rw [List.length_append]
  have e : intsV (l ++ [x]) = intsV l ++ [.int .i64 x] := by simp [intsV]
  rw [e]
  exact h
set_option maxRecDepth 20000 in
set_option maxHeartbeats 16000000 in
theorem specCountPeople_any (h : Hs) (x : Lg) (a : Option Addr) (cap : Nat) (hl : x.ps.length ≤ 1048576) (w : World) (hP : PIn w w.heap.size a x.ps) :
    Calls Try.prog 42 #[.agg #[.int .i64 h.fl, .int .i64 h.gp, .int .i64 h.ln, .int .i64 h.rf, .int .i64 h.sp, .int .i64 h.pu, .int .i64 h.br, .int .i64 h.dr, .int .i64 h.lv, .int .i64 h.dO, .int .i64 h.ld, .int .i64 h.qu], .agg #[.int .i64 x.nx, .slice a x.ps.length cap]] w (isInts w (Hs.led h x) (Hs.cntV h x)) := by
  have HP : Hid (PIn w w.heap.size a x.ps) := hP
  clear hP
  by_cases hk : Hs.led h x = 0
  · have HV : Hs.cntV h x = cnts x.ps := if_pos hk
    rw [HV, hk]
    obtain ⟨L, hL⟩ : ∃ L, cnts x.ps = L := ⟨_, rfl⟩
    have HT0 : Hid (∀ k : Nat, k < 5 → L.take (k + 1) = L.take k ++ [(cnt (k : Int) (-1) 0 x.ps : Int)]) := by rw [← hL]; exact fun k hk => cnts_take hk
    have H5 : Hid (L.length = 5) := by rw [← hL]; exact rfl
    rw [hL]
    clear HV hL
    obtain ⟨i0, hi0, hz0, hz1, hz2⟩ := info_parts info64
    have hI : Hid (Try.prog.info? 2 = some i0 ∧ i0.zero = some (.int .i64 0) ∧ i0.size = 1 ∧ i0.bytes = 8) := ⟨hi0, hz0, hz1, hz2⟩
    clear hi0 hz0 hz1 hz2
    go_enter Try.func42, Try.ntmps42
    go_upto_region 1 with fail
    obtain ⟨W0, hW0⟩ : ∃ W0, W0 = (((w.alloc (.cells #[.int .i64 h.fl, .int .i64 h.gp, .int .i64 h.ln, .int .i64 h.rf, .int .i64 h.sp, .int .i64 h.pu, .int .i64 h.br, .int .i64 h.dr, .int .i64 h.lv, .int .i64 h.dO, .int .i64 h.ld, .int .i64 h.qu] 25)).alloc (.cells #[.int .i64 x.nx, .slice a x.ps.length cap] 28)).alloc (.cells #[.int .i64 0, .slice none 0 0] 36)) := ⟨_, rfl⟩
    have F0 : Hid (HAt W0 w.heap.size h) := by rw [hW0]; exact ((HAt.at_ w h _ _ rfl).alloc _).alloc _
    have F1 : Hid (LW W0 (w.heap.size + 1) x.nx (.slice a x.ps.length cap)) := by rw [hW0]; exact (LW.at_ _ x.nx (.slice a x.ps.length cap) _ _ (by simp)).alloc _
    have F2 : Hid (LW W0 (w.heap.size + 2) 0 (.slice none 0 0)) := by rw [hW0]; exact LW.at_ _ 0 (.slice none 0 0) _ _ (by simp)
    have FB : Hid (Below w.heap.size w W0) := by rw [hW0]; exact (((Below.refl _ _).alloc (Nat.le_refl _) _).alloc (by simp) _).alloc (by simp; omega) _
    rw [← hW0]
    clear hW0
    obtain ⟨x0_0, x0_1, x0_2, x0_3, x0_4, x0_5, x0_6, x0_7, x0_8, x0_9, x0_10, x0_11⟩ := F0.out
    obtain ⟨x1_0, x1_1, y1_0, y1_1⟩ := F1.out
    go_upto_region 4 with (go_at_call 20; refine (specLedgerFault_any h x a cap hl _ ((HP.out.below FB.out (Nat.le_refl _)).mono FB.out.size)).mono ?_; rw [hk]; rintro e w1 ⟨rfl, hb⟩; have F0 : Hid (HAt w1 w.heap.size h) := F0.out.below hb F0.out.lt; have F1 : Hid (LW w1 (w.heap.size + 1) x.nx (.slice a x.ps.length cap)) := F1.out.below hb F1.out.lt; have F2 : Hid (LW w1 (w.heap.size + 2) 0 (.slice none 0 0)) := F2.out.below hb F2.out.lt; have FB : Hid (Below w.heap.size w w1) := FB.out.trans (hb.mono FB.out.size); clear hb; obtain ⟨x0_0, x0_1, x0_2, x0_3, x0_4, x0_5, x0_6, x0_7, x0_8, x0_9, x0_10, x0_11⟩ := F0.out; obtain ⟨x1_0, x1_1, y1_0, y1_1⟩ := F1.out)
    have l2 := F2.out.lt
    have FE : Hid (OwI (w1.alloc (.cells #[] 2)) (w.heap.size + 3) (.slice (some ⟨w1.heap.size, 0, none⟩) 0 0) (L.take 0)) := by rw [List.take_zero]; exact owi_empty w1 _ (by omega)
    go_wp2_with fail
    go_loopw [6, 7] (fun vv ss wr => ∃ (k : Nat) (v : Value), ss = .int .i64 k ∧ v = vv ∧ k ≤ 5 ∧ OwI wr (w.heap.size + 3) v (L.take k) ∧ LW wr (w.heap.size + 1) x.nx (.slice a x.ps.length cap) ∧ LW wr (w.heap.size + 2) 0 (.slice none 0 0) ∧ Below w.heap.size w wr) (fun _ ss _ => 5 - (intOf ss).toNat)
    case atStart => exact ⟨0, _, rfl, rfl, by omega, FE.out, F1.out.alloc _, F2.out.alloc _, FB.out.alloc FB.out.size _⟩
    case round =>
      obtain ⟨k, v, rfl, hv, hk5, ho, h1, h2, hb⟩ := hrel
      subst hv
      clear F0 F1 F2 FB FE
      have FO : Hid (OwI wr (w.heap.size + 3) v (L.take k)) := ho
      have F1 : Hid (LW wr (w.heap.size + 1) x.nx (.slice a x.ps.length cap)) := h1
      have F2 : Hid (LW wr (w.heap.size + 2) 0 (.slice none 0 0)) := h2
      have FB : Hid (Below w.heap.size w wr) := hb
      clear ho h1 h2 hb
      by_cases hlt : k < 5
      · have HT : Hid (L.take (k + 1) = L.take k ++ [(cnt (k : Int) (-1) 0 x.ps : Int)]) := HT0.out k hlt
        have hn5 : (L.take k).length ≤ 5 := by rw [List.length_take]; omega
        have bk : decide ((k : Int) < 5) = true := decide_eq_true (by omega)
        go_wp2_with (first | (go_at_call 59; refine (l7Count_any (w.heap.size + 1) x.nx a cap x.ps (k : Int) (-1) 0 hl _ F1.out.lat ((HP.out.below FB.out (Nat.le_refl _)).mono FB.out.size)).mono ?_; rintro e w2 ⟨rfl, hb⟩; have FO : Hid (OwI w2 (w.heap.size + 3) v (L.take k)) := FO.out.below hb (fun j hj => (FO.out.lt j hj).2); have F1 : Hid (LW w2 (w.heap.size + 1) x.nx (.slice a x.ps.length cap)) := F1.out.below hb F1.out.lt; have F2 : Hid (LW w2 (w.heap.size + 2) 0 (.slice none 0 0)) := F2.out.below hb F2.out.lt; have FB : Hid (Below w.heap.size w w2) := FB.out.trans (hb.mono FB.out.size); clear hb; have lz := F2.out.lt) | (at_builtin; go_loud (refine wpList_append_own _ rfl _ _ 34 rfl (w.heap.size + 3) 2 i0 (.int .i64 0) 1 8 undI64S hI.out.1 hI.out.2.1 hI.out.2.2.1 hI.out.2.2.2 rfl (by omega) _ (L.take k).length _ rfl (FO.out.alloc _) ⟨w2.heap.size, 0, none⟩ 1 1 [.int .i64 ((cnt (k : Int) (-1) 0 x.ps : Nat) : Int)] rfl rfl (one_new w2 _ _) (one_cell _) (by unfold maxLen; omega) (by omega) (by simp; omega) ?_); intro v1 w3 ho hg hn; have FO3 : Hid (OwI w3 (w.heap.size + 3) v1 (L.take (k + 1))) := (by rw [HT.out]; exact owi_more ho); have F1 : Hid (LW w3 (w.heap.size + 1) x.nx (.slice a x.ps.length cap)) := (F1.out.alloc _).grown hg (fun e => by have := (FO.out.lt _ e.symm).1; omega); have F2 : Hid (LW w3 (w.heap.size + 2) 0 (.slice none 0 0)) := (F2.out.alloc _).grown hg (fun e => by have := (FO.out.lt _ e.symm).1; omega); have FB3 : Hid (Below w.heap.size w w3) := (FB.out.alloc FB.out.size _).grown hg (by simp; omega) (fun j hj => by have := (FO.out.lt j hj).1; omega); clear ho hg hn))
        go_roundw
        case rel => exact ⟨k + 1, _, by simp, rfl, by omega, FO3.out, F1.out, F2.out, FB3.out⟩
        case measure => simp [intOf]; omega
      · have ek : k = 5 := by omega
        subst ek
        have FO : Hid (OwI wr (w.heap.size + 3) v L) := by
          have q := FO.out
          rw [List.take_of_length_le (by have := H5.out; omega)] at q
          exact q
        obtain ⟨ra, rc, rfl⟩ := FO.out.sl
        have NEV : ∀ j, (Value.slice ra L.length rc).ownBlock = some j → w.heap.size + 2 ≠ j := fun j hj => by have := (FO.out.lt j hj).1; omega
        obtain ⟨x2_0, x2_1, y2_0, y2_1⟩ := F2.out
        go_wp2_with fail
        exact bodyPost_ret (v := .agg #[.int .i64 0, .slice ra L.length rc]) (by simp [results, Try.results42, go_sem, x2_0, x2_1]) rfl ⟨_, _, rfl, ((FO.out.base (show w.heap.size ≤ w.heap.size + 3 by omega)).other (p := ⟨w.heap.size + 2, 0, none⟩) (fun e => NEV _ e rfl) _).other (p := ⟨w.heap.size + 2, 1, none⟩) (fun e => NEV _ e rfl) _, by repeat (first | exact FB.out | (refine Below.setCell ?_ (by simp <;> omega) _))⟩
  · have HV : Hs.cntV h x = [] := if_neg hk
    rw [HV]
    have hn : ((Hs.led h x) != 0) = true := by simpa using hk
    clear hk HV
    go_enter Try.func42, Try.ntmps42
    go_upto_region 1 with fail
    obtain ⟨W0, hW0⟩ : ∃ W0, W0 = (((w.alloc (.cells #[.int .i64 h.fl, .int .i64 h.gp, .int .i64 h.ln, .int .i64 h.rf, .int .i64 h.sp, .int .i64 h.pu, .int .i64 h.br, .int .i64 h.dr, .int .i64 h.lv, .int .i64 h.dO, .int .i64 h.ld, .int .i64 h.qu] 25)).alloc (.cells #[.int .i64 x.nx, .slice a x.ps.length cap] 28)).alloc (.cells #[.int .i64 0, .slice none 0 0] 36)) := ⟨_, rfl⟩
    have F0 : Hid (HAt W0 w.heap.size h) := by rw [hW0]; exact ((HAt.at_ w h _ _ rfl).alloc _).alloc _
    have F1 : Hid (LW W0 (w.heap.size + 1) x.nx (.slice a x.ps.length cap)) := by rw [hW0]; exact (LW.at_ _ x.nx (.slice a x.ps.length cap) _ _ (by simp)).alloc _
    have F2 : Hid (LW W0 (w.heap.size + 2) 0 (.slice none 0 0)) := by rw [hW0]; exact LW.at_ _ 0 (.slice none 0 0) _ _ (by simp)
    have FB : Hid (Below w.heap.size w W0) := by rw [hW0]; exact (((Below.refl _ _).alloc (Nat.le_refl _) _).alloc (by simp) _).alloc (by simp; omega) _
    rw [← hW0]
    clear hW0
    obtain ⟨x0_0, x0_1, x0_2, x0_3, x0_4, x0_5, x0_6, x0_7, x0_8, x0_9, x0_10, x0_11⟩ := F0.out
    obtain ⟨x1_0, x1_1, y1_0, y1_1⟩ := F1.out
    go_upto_region 3 with (go_at_call 20; refine (specLedgerFault_any h x a cap hl _ ((HP.out.below FB.out (Nat.le_refl _)).mono FB.out.size)).mono ?_;  rintro e w1 ⟨rfl, hb⟩; have F0 : Hid (HAt w1 w.heap.size h) := F0.out.below hb F0.out.lt; have F1 : Hid (LW w1 (w.heap.size + 1) x.nx (.slice a x.ps.length cap)) := F1.out.below hb F1.out.lt; have F2 : Hid (LW w1 (w.heap.size + 2) 0 (.slice none 0 0)) := F2.out.below hb F2.out.lt; have FB : Hid (Below w.heap.size w w1) := FB.out.trans (hb.mono FB.out.size); clear hb; obtain ⟨x0_0, x0_1, x0_2, x0_3, x0_4, x0_5, x0_6, x0_7, x0_8, x0_9, x0_10, x0_11⟩ := F0.out; obtain ⟨x1_0, x1_1, y1_0, y1_1⟩ := F1.out)
    obtain ⟨x2_0, x2_1, y2_0, y2_1⟩ := F2.out
    go_wp2_with fail
    exact bodyPost_ret (v := .agg #[.int .i64 (Hs.led h x), .slice none 0 0]) (by simp [results, Try.results42, go_sem, x2_0, x2_1]) rfl ⟨none, 0, rfl, owi_nil _ _, by repeat (first | exact FB.out | (refine Below.setCell ?_ (by simp <;> omega) _))⟩
set_option maxRecDepth 20000 in
set_option maxHeartbeats 16000000 in
theorem specLoadOf_any (h : Hs) (x : Lg) (sh ca : Int) (a : Option Addr) (cap : Nat) (hl : x.ps.length ≤ 1048576) (w : World) (hP : PIn w w.heap.size a x.ps) :
    Calls Try.prog 47 #[.agg #[.int .i64 h.fl, .int .i64 h.gp, .int .i64 h.ln, .int .i64 h.rf, .int .i64 h.sp, .int .i64 h.pu, .int .i64 h.br, .int .i64 h.dr, .int .i64 h.lv, .int .i64 h.dO, .int .i64 h.ld, .int .i64 h.qu], .agg #[.int .i64 x.nx, .slice a x.ps.length cap], .int .i64 sh, .int .i64 ca] w (isInts w (Hs.askd h x sh ca 0) (Hs.loadV h x sh ca)) := by
  have HP : Hid (PIn w w.heap.size a x.ps) := hP
  clear hP
  by_cases hk : Hs.askd h x sh ca 0 = 0
  · have HV : Hs.loadV h x sh ca = riders sh ca x.ps := if_pos hk
    rw [HV, hk]
    clear HV
    obtain ⟨i0, hi0, hz0, hz1, hz2⟩ := info_parts info64
    have hI : Hid (Try.prog.info? 2 = some i0 ∧ i0.zero = some (.int .i64 0) ∧ i0.size = 1 ∧ i0.bytes = 8) := ⟨hi0, hz0, hz1, hz2⟩
    clear hi0 hz0 hz1 hz2
    go_enter Try.func47, Try.ntmps47
    go_upto_region 1 with fail
    obtain ⟨W0, hW0⟩ : ∃ W0, W0 = (((w.alloc (.cells #[.int .i64 h.fl, .int .i64 h.gp, .int .i64 h.ln, .int .i64 h.rf, .int .i64 h.sp, .int .i64 h.pu, .int .i64 h.br, .int .i64 h.dr, .int .i64 h.lv, .int .i64 h.dO, .int .i64 h.ld, .int .i64 h.qu] 25)).alloc (.cells #[.int .i64 x.nx, .slice a x.ps.length cap] 28)).alloc (.cells #[.int .i64 0, .slice none 0 0] 36)) := ⟨_, rfl⟩
    have F0 : Hid (HAt W0 w.heap.size h) := by rw [hW0]; exact ((HAt.at_ w h _ _ rfl).alloc _).alloc _
    have F1 : Hid (LW W0 (w.heap.size + 1) x.nx (.slice a x.ps.length cap)) := by rw [hW0]; exact (LW.at_ _ x.nx (.slice a x.ps.length cap) _ _ (by simp)).alloc _
    have F2 : Hid (LW W0 (w.heap.size + 2) 0 (.slice none 0 0)) := by rw [hW0]; exact LW.at_ _ 0 (.slice none 0 0) _ _ (by simp)
    have FB : Hid (Below w.heap.size w W0) := by rw [hW0]; exact (((Below.refl _ _).alloc (Nat.le_refl _) _).alloc (by simp) _).alloc (by simp; omega) _
    rw [← hW0]
    clear hW0
    obtain ⟨x0_0, x0_1, x0_2, x0_3, x0_4, x0_5, x0_6, x0_7, x0_8, x0_9, x0_10, x0_11⟩ := F0.out
    obtain ⟨x1_0, x1_1, y1_0, y1_1⟩ := F1.out
    go_upto_region 4 with (go_at_call 52; refine (l7Asked_any h x sh ca 0 a cap hl _ ((HP.out.below FB.out (Nat.le_refl _)).mono FB.out.size)).mono ?_; rw [hk]; rintro e w1 ⟨rfl, hb⟩; have F0 : Hid (HAt w1 w.heap.size h) := F0.out.below hb F0.out.lt; have F1 : Hid (LW w1 (w.heap.size + 1) x.nx (.slice a x.ps.length cap)) := F1.out.below hb F1.out.lt; have F2 : Hid (LW w1 (w.heap.size + 2) 0 (.slice none 0 0)) := F2.out.below hb F2.out.lt; have FB : Hid (Below w.heap.size w w1) := FB.out.trans (hb.mono FB.out.size); clear hb; obtain ⟨x0_0, x0_1, x0_2, x0_3, x0_4, x0_5, x0_6, x0_7, x0_8, x0_9, x0_10, x0_11⟩ := F0.out; obtain ⟨x1_0, x1_1, y1_0, y1_1⟩ := F1.out)
    go_upto_region 5 with fail
    obtain ⟨ob, hob⟩ : ∃ ob, ob = w1.heap.size := ⟨_, rfl⟩
    have lob : w.heap.size + 2 < ob := by rw [hob]; exact F2.out.lt
    obtain ⟨w2, hw2⟩ : ∃ w2, w2 = w1.alloc (.cells #[.int .i64 0, .slice none 0 0] 36) := ⟨_, rfl⟩
    have F1 : Hid (LW w2 (w.heap.size + 1) x.nx (.slice a x.ps.length cap)) := by rw [hw2]; exact F1.out.alloc _
    have F2 : Hid (LW w2 (w.heap.size + 2) 0 (.slice none 0 0)) := by rw [hw2]; exact F2.out.alloc _
    have F4 : Hid (LW w2 ob 0 (.slice none 0 0)) := by rw [hw2]; exact LW.at_ w1 0 (.slice none 0 0) _ _ hob
    have FB : Hid (Below w.heap.size w w2) := by rw [hw2]; exact FB.out.alloc FB.out.size _
    rw [← hw2]
    clear hw2
    rw [← hob]
    clear hob x0_0 x0_1 x0_2 x0_3 x0_4 x0_5 x0_6 x0_7 x0_8 x0_9 x0_10 x0_11 x1_0 x1_1 y1_0 y1_1
    go_wp2_with fail
    go_loopw [11] (fun ii wr => ∃ (i : Nat) (ra : Option Addr) (rc : Nat), ii = .int .i64 i ∧ i ≤ x.ps.length ∧ OwI wr (ob + 1) (.slice ra (riders sh ca (x.ps.take i)).length rc) (riders sh ca (x.ps.take i)) ∧ LW wr (w.heap.size + 1) x.nx (.slice a x.ps.length cap) ∧ LW wr (w.heap.size + 2) 0 (.slice none 0 0) ∧ LW wr ob 0 (.slice ra (riders sh ca (x.ps.take i)).length rc) ∧ Below w.heap.size w wr) (fun ii _ => x.ps.length - (intOf ii).toNat)
    case atStart => exact ⟨0, none, 0, rfl, by omega, owi_nil _ _, F1.out, F2.out, F4.out, FB.out⟩
    case round =>
      obtain ⟨i, ra, rc, rfl, hi, ho, h1, h2, h4, hb⟩ := hrel
      obtain ⟨R, hR⟩ : ∃ R, riders sh ca (x.ps.take i) = R := ⟨_, rfl⟩
      rw [hR] at ho h4
      have HR : Hid (riders sh ca (x.ps.take i) = R) := hR
      have hrn : R.length ≤ 1048576 := by rw [← hR]; exact Nat.le_trans (riders_le _ _ _) (by rw [List.length_take]; omega)
      have G1 : Hid (LW wr (w.heap.size + 1) x.nx (.slice a x.ps.length cap)) := h1
      have G2 : Hid (LW wr (w.heap.size + 2) 0 (.slice none 0 0)) := h2
      have G4 : Hid (LW wr ob 0 (.slice ra R.length rc)) := h4
      have FO : Hid (OwI wr (ob + 1) (.slice ra R.length rc) R) := ho
      have GB : Hid (Below w.heap.size w wr) := hb
      clear ho h1 h2 h4 hb hR
      obtain ⟨g0, g1, g2, g3⟩ := G1.out
      by_cases hlt : i < x.ps.length
      · obtain ⟨p, hp⟩ : ∃ p, x.ps[i]? = some p := ⟨_, List.getElem?_eq_getElem hlt⟩
        have H0 : Hid (x.ps[i]? = some p) := hp
        rcases HP.out with hz | ⟨b, o, ha, hbl, h7⟩
        · rw [hz] at hlt; simp at hlt
        obtain ⟨c0, c1, c2, c3, c4, c5, c6⟩ := (h7 i p hp).below GB.out hbl
        have HA : Hid (a = some ⟨b, o, none⟩) := ha
        subst ha
        clear h7 hp
        go_upto_region 9 with fail
        obtain ⟨pb, hpb⟩ : ∃ pb, pb = wr.heap.size := ⟨_, rfl⟩
        obtain ⟨W1, hW1⟩ : ∃ W1, W1 = wr.alloc (.cells #[.int .i64 p.id, .int .i64 p.fr, .int .i64 p.tw, .int .i64 p.sh, .int .i64 p.ca, .int .i64 p.st, .int .i64 p.pl] 39) := ⟨_, rfl⟩
        have FO : Hid (OwI W1 (ob + 1) (.slice ra R.length rc) R) := by rw [hW1]; exact FO.out.alloc _
        have F1 : Hid (LW W1 (w.heap.size + 1) x.nx (.slice (some ⟨b, o, none⟩) x.ps.length cap)) := by rw [hW1]; exact G1.out.alloc _
        have F2 : Hid (LW W1 (w.heap.size + 2) 0 (.slice none 0 0)) := by rw [hW1]; exact G2.out.alloc _
        have F4 : Hid (LW W1 ob 0 (.slice ra R.length rc)) := by rw [hW1]; exact G4.out.alloc _
        have F3 : Hid (P7 W1 pb 0 p) := by rw [hW1]; exact P7.at_ wr p _ _ hpb
        have FB : Hid (Below w.heap.size w W1) := by rw [hW1]; exact GB.out.alloc GB.out.size _
        rw [← hW1]
        clear hW1
        rw [← hpb]
        clear hpb c0 c1 c2 c3 c4 c5 c6 g0 g1 g2 g3
        obtain ⟨z0, z1, z2, z3, z4, z5, z6⟩ := F3.out
        cases k0 : (p.sh == sh)
        · have HE : Hid (riders sh ca (x.ps.take (i + 1)) = R) := by
            rw [riders_take H0.out, HR.out, if_neg (by simp [isW, *])]
            exact List.append_nil R
          go_wp2_with fail
          go_roundw
          case rel => exact ⟨i + 1, _, _, by simp, by omega, by rw [HE.out]; exact FO.out, F1.out, F2.out, by rw [HE.out]; exact F4.out, FB.out⟩
          case measure => simp [intOf]; omega
        · cases k1 : (p.ca == ca)
          · have HE : Hid (riders sh ca (x.ps.take (i + 1)) = R) := by
              rw [riders_take H0.out, HR.out, if_neg (by simp [isW, *])]
              exact List.append_nil R
            go_wp2_with fail
            go_roundw
            case rel => exact ⟨i + 1, _, _, by simp, by omega, by rw [HE.out]; exact FO.out, F1.out, F2.out, by rw [HE.out]; exact F4.out, FB.out⟩
            case measure => simp [intOf]; omega
          · cases k2 : (p.st == 1)
            · have HE : Hid (riders sh ca (x.ps.take (i + 1)) = R) := by
                rw [riders_take H0.out, HR.out, if_neg (by simp [isW, *])]
                exact List.append_nil R
              go_wp2_with fail
              go_roundw
              case rel => exact ⟨i + 1, _, _, by simp, by omega, by rw [HE.out]; exact FO.out, F1.out, F2.out, by rw [HE.out]; exact F4.out, FB.out⟩
              case measure => simp [intOf]; omega
            · have HE : Hid (riders sh ca (x.ps.take (i + 1)) = R ++ [p.id]) := by
                rw [riders_take H0.out, HR.out, if_pos (by simp [isW, *])]
                exact rfl
              obtain ⟨o0, o1, o2, o3⟩ := F4.out
              have l4 := F4.out.lt
              go_wp2_with (at_builtin; go_loud (refine wpList_append_own _ rfl _ _ 34 rfl (ob + 1) 2 i0 (.int .i64 0) 1 8 undI64S hI.out.1 hI.out.2.1 hI.out.2.2.1 hI.out.2.2.2 rfl (by omega) _ (R).length _ rfl (FO.out.alloc _) ⟨W1.heap.size, 0, none⟩ 1 1 [.int .i64 (p.id)] rfl rfl (one_new W1 _ _) (one_cell _) (by unfold maxLen; omega) (by omega) (by simp; omega) ?_); intro v1 w3 ho hg hn; obtain ⟨ra2, rc2, hv1⟩ := (owi_more ho).sl; subst hv1; have FO3 : Hid (OwI w3 (ob + 1) (.slice ra2 (R ++ [p.id]).length rc2) (R ++ [p.id])) := owi_more ho; have F1 : Hid (LW w3 (w.heap.size + 1) x.nx (.slice (some ⟨b, o, none⟩) x.ps.length cap)) := (F1.out.alloc _).grown hg (fun e => by have := (FO.out.lt _ e.symm).1; omega); have F2 : Hid (LW w3 (w.heap.size + 2) 0 (.slice none 0 0)) := (F2.out.alloc _).grown hg (fun e => by have := (FO.out.lt _ e.symm).1; omega); have F4 : Hid (LW w3 ob 0 (.slice ra R.length rc)) := (F4.out.alloc _).grown hg (fun e => by have := (FO.out.lt _ e.symm).1; omega); have FB3 : Hid (Below w.heap.size w w3) := (FB.out.alloc FB.out.size _).grown hg (by simp; omega) (fun j hj => by have := (FO.out.lt j hj).1; omega); obtain ⟨o0, o1, o2, o3⟩ := F4.out; clear ho hg hn)
              go_roundw
              case rel => exact ⟨i + 1, _, _, by simp, by omega, by rw [HE.out]; exact FO3.out.other (p := ⟨ob, 1, none⟩) (fun e => by have := (FO3.out.lt _ e).1; simp at this; omega) _, F1.out.other (by omega), F2.out.other (by omega), by rw [HE.out, List.length_append]; exact F4.out.set1 _, FB3.out.setCell (by simp; omega) _⟩
              case measure => simp [intOf]; omega
      · have ei : i = x.ps.length := by omega
        subst ei
        have HR : Hid (R = riders sh ca x.ps) := by rw [← HR.out, List.take_length]; exact rfl
        have hr2 := HR.out
        subst hr2
        have NEV : ∀ j, (Value.slice ra (riders sh ca x.ps).length rc).ownBlock = some j → w.heap.size + 2 ≠ j := fun j hj => by have := (FO.out.lt j hj).1; omega
        obtain ⟨x2_0, x2_1, y2_0, y2_1⟩ := G2.out
        obtain ⟨o0, o1, o2, o3⟩ := G4.out
        go_wp2_with fail
        exact bodyPost_ret (v := .agg #[.int .i64 0, .slice ra (riders sh ca x.ps).length rc]) (by simp [results, Try.results47, go_sem, x2_0, x2_1]) rfl ⟨_, _, rfl, ((FO.out.base (show w.heap.size ≤ ob + 1 by omega)).other (p := ⟨w.heap.size + 2, 0, none⟩) (fun e => NEV _ e rfl) _).other (p := ⟨w.heap.size + 2, 1, none⟩) (fun e => NEV _ e rfl) _, by repeat (first | exact GB.out | (refine Below.setCell ?_ (by simp <;> omega) _))⟩
  · have HV : Hs.loadV h x sh ca = [] := if_neg hk
    rw [HV]
    have hn : ((Hs.askd h x sh ca 0) != 0) = true := by simpa using hk
    clear hk HV
    go_enter Try.func47, Try.ntmps47
    go_upto_region 1 with fail
    obtain ⟨W0, hW0⟩ : ∃ W0, W0 = (((w.alloc (.cells #[.int .i64 h.fl, .int .i64 h.gp, .int .i64 h.ln, .int .i64 h.rf, .int .i64 h.sp, .int .i64 h.pu, .int .i64 h.br, .int .i64 h.dr, .int .i64 h.lv, .int .i64 h.dO, .int .i64 h.ld, .int .i64 h.qu] 25)).alloc (.cells #[.int .i64 x.nx, .slice a x.ps.length cap] 28)).alloc (.cells #[.int .i64 0, .slice none 0 0] 36)) := ⟨_, rfl⟩
    have F0 : Hid (HAt W0 w.heap.size h) := by rw [hW0]; exact ((HAt.at_ w h _ _ rfl).alloc _).alloc _
    have F1 : Hid (LW W0 (w.heap.size + 1) x.nx (.slice a x.ps.length cap)) := by rw [hW0]; exact (LW.at_ _ x.nx (.slice a x.ps.length cap) _ _ (by simp)).alloc _
    have F2 : Hid (LW W0 (w.heap.size + 2) 0 (.slice none 0 0)) := by rw [hW0]; exact LW.at_ _ 0 (.slice none 0 0) _ _ (by simp)
    have FB : Hid (Below w.heap.size w W0) := by rw [hW0]; exact (((Below.refl _ _).alloc (Nat.le_refl _) _).alloc (by simp) _).alloc (by simp; omega) _
    rw [← hW0]
    clear hW0
    obtain ⟨x0_0, x0_1, x0_2, x0_3, x0_4, x0_5, x0_6, x0_7, x0_8, x0_9, x0_10, x0_11⟩ := F0.out
    obtain ⟨x1_0, x1_1, y1_0, y1_1⟩ := F1.out
    go_upto_region 3 with (go_at_call 52; refine (l7Asked_any h x sh ca 0 a cap hl _ ((HP.out.below FB.out (Nat.le_refl _)).mono FB.out.size)).mono ?_;  rintro e w1 ⟨rfl, hb⟩; have F0 : Hid (HAt w1 w.heap.size h) := F0.out.below hb F0.out.lt; have F1 : Hid (LW w1 (w.heap.size + 1) x.nx (.slice a x.ps.length cap)) := F1.out.below hb F1.out.lt; have F2 : Hid (LW w1 (w.heap.size + 2) 0 (.slice none 0 0)) := F2.out.below hb F2.out.lt; have FB : Hid (Below w.heap.size w w1) := FB.out.trans (hb.mono FB.out.size); clear hb; obtain ⟨x0_0, x0_1, x0_2, x0_3, x0_4, x0_5, x0_6, x0_7, x0_8, x0_9, x0_10, x0_11⟩ := F0.out; obtain ⟨x1_0, x1_1, y1_0, y1_1⟩ := F1.out)
    obtain ⟨x2_0, x2_1, y2_0, y2_1⟩ := F2.out
    go_wp2_with fail
    exact bodyPost_ret (v := .agg #[.int .i64 (Hs.askd h x sh ca 0), .slice none 0 0]) (by simp [results, Try.results47, go_sem, x2_0, x2_1]) rfl ⟨none, 0, rfl, owi_nil _ _, by repeat (first | exact FB.out | (refine Below.setCell ?_ (by simp <;> omega) _))⟩
end Go.Proofs.Ytllphhhaaoggjaa
