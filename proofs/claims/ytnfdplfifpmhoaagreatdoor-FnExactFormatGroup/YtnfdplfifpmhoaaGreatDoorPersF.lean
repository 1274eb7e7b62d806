/-
  The model's ledger: LedgerFault.
-/
import Derived.Test.YtnfdplfifpmhoaaGreatDoorPersE
import Derived.Test.YtnfdplfifpmhoaaGreatDoorPersA
namespace Go.Proofs.YtnfdplfifpmhoaaGreatDoor
open Go.RowKit Pl
set_option linter.unusedSimpArgs false
set_option linter.unusedVariables false

set_option maxRecDepth 20000 in
set_option maxHeartbeats 16000000 in
theorem specLedgerFault_any (h : Hs) (x : Lg) (a : Option Addr) (cap : Nat) (hl : x.ps.length ≤ 1048576) (w : World) (hP : PIn w w.heap.size a x.ps) :
    Calls Tryz.prog 33 #[.agg #[.int .i64 h.fl, .int .i64 h.gp, .int .i64 h.ln, .int .i64 h.rf, .int .i64 h.sp, .int .i64 h.pu, .int .i64 h.br, .int .i64 h.dr, .int .i64 h.lv, .int .i64 h.dO, .int .i64 h.ld, .int .i64 h.qu], .agg #[.int .i64 x.nx, .slice a x.ps.length cap]] w fun e w' => e = .returned (.int .i64 (Hs.led h x)) ∧ Below w.heap.size w w' := by
  unfold Hs.led
  have HP : Hid (PIn w w.heap.size a x.ps) := hP
  have F0 : Hid (HAt ((w.alloc (.cells #[.int .i64 h.fl, .int .i64 h.gp, .int .i64 h.ln, .int .i64 h.rf, .int .i64 h.sp, .int .i64 h.pu, .int .i64 h.br, .int .i64 h.dr, .int .i64 h.lv, .int .i64 h.dO, .int .i64 h.ld, .int .i64 h.qu] 32)).alloc (.cells #[.int .i64 x.nx, .slice a x.ps.length cap] 36)) w.heap.size h) := (HAt.new w h _).below ((Below.refl _ _).alloc (Nat.le_refl _) _) (by simp)
  have F1 : Hid (LAt ((w.alloc (.cells #[.int .i64 h.fl, .int .i64 h.gp, .int .i64 h.ln, .int .i64 h.rf, .int .i64 h.sp, .int .i64 h.pu, .int .i64 h.br, .int .i64 h.dr, .int .i64 h.lv, .int .i64 h.dO, .int .i64 h.ld, .int .i64 h.qu] 32)).alloc (.cells #[.int .i64 x.nx, .slice a x.ps.length cap] 36)) (w.heap.size + 1) x.nx a x.ps.length cap) := (LW.at_ _ x.nx (.slice a x.ps.length cap) _ _ (by simp)).lat
  have FB : Hid (Below w.heap.size w ((w.alloc (.cells #[.int .i64 h.fl, .int .i64 h.gp, .int .i64 h.ln, .int .i64 h.rf, .int .i64 h.sp, .int .i64 h.pu, .int .i64 h.br, .int .i64 h.dr, .int .i64 h.lv, .int .i64 h.dO, .int .i64 h.ld, .int .i64 h.qu] 32)).alloc (.cells #[.int .i64 x.nx, .slice a x.ps.length cap] 36))) := ((Below.refl _ _).alloc (Nat.le_refl _) _).alloc (by simp) _
  clear hP
  by_cases hf : h.fault = 0
  · rw [if_pos hf]
    unfold Hs.ledC
    cases k1 : inB x.nx 1 1000000000000000
    · rw [if_neg (by simp)]
      go_enter Tryz.func33, Tryz.ntmps33
      go_wp2_with (first | (go_at_call 28; refine (specFault_any h _).mono ?_; rw [hf]; rintro e w1 ⟨rfl, hb⟩; have F0 : Hid (HAt w1 w.heap.size h) := F0.out.below hb F0.out.lt; have F1 : Hid (LAt w1 (w.heap.size + 1) x.nx a x.ps.length cap) := F1.out.below hb F1.out.lt; have FB : Hid (Below w.heap.size w w1) := FB.out.trans (hb.mono FB.out.size); clear hb; obtain ⟨x0_0, x0_1, x0_2, x0_3, x0_4, x0_5, x0_6, x0_7, x0_8, x0_9, x0_10, x0_11⟩ := F0.out; obtain ⟨g0, g1⟩ := F1.out) | (go_at_call 31; refine (l1In_any _ _ _ _).mono ?_; rintro e w' ⟨rfl, hw⟩; obtain rfl := hw.symm; clear hw))
      go_ret
      exact ⟨rfl, FB.out⟩
    · rw [if_pos rfl]
      have kk := inB_iff.1 k1
      by_cases k2 : 60 < x.ps.length
      · rw [if_pos k2]
        have b2 : decide ((60 : Int) < (x.ps.length : Int)) = true := decide_eq_true (by omega)
        go_enter Tryz.func33, Tryz.ntmps33
        go_wp2_with (first | (go_at_call 28; refine (specFault_any h _).mono ?_; rw [hf]; rintro e w1 ⟨rfl, hb⟩; have F0 : Hid (HAt w1 w.heap.size h) := F0.out.below hb F0.out.lt; have F1 : Hid (LAt w1 (w.heap.size + 1) x.nx a x.ps.length cap) := F1.out.below hb F1.out.lt; have FB : Hid (Below w.heap.size w w1) := FB.out.trans (hb.mono FB.out.size); clear hb; obtain ⟨x0_0, x0_1, x0_2, x0_3, x0_4, x0_5, x0_6, x0_7, x0_8, x0_9, x0_10, x0_11⟩ := F0.out; obtain ⟨g0, g1⟩ := F1.out) | (go_at_call 31; refine (l1In_any _ _ _ _).mono ?_; rintro e w' ⟨rfl, hw⟩; obtain rfl := hw.symm; clear hw))
        go_ret
        exact ⟨rfl, FB.out⟩
      · rw [if_neg k2]
        have b2 : decide ((60 : Int) < (x.ps.length : Int)) = false := decide_eq_false (by omega)
        obtain ⟨r, hr⟩ : ∃ r, (if Hs.first h x.nx 0 x.ps = 0 then (if h.qu < cnt 0 (-1) 0 x.ps then 2 else if Hs.over h x.ps = true then 2 else 0) else Hs.first h x.nx 0 x.ps) = r := ⟨_, rfl⟩
        rw [hr]
        have HR : Hid ((if Hs.first h x.nx 0 x.ps = 0 then (if h.qu < cnt 0 (-1) 0 x.ps then 2 else if Hs.over h x.ps = true then 2 else 0) else Hs.first h x.nx 0 x.ps) = r) := hr
        clear hr
        go_enter Tryz.func33, Tryz.ntmps33
        go_wp2_with (first | (go_at_call 28; refine (specFault_any h _).mono ?_; rw [hf]; rintro e w1 ⟨rfl, hb⟩; have F0 : Hid (HAt w1 w.heap.size h) := F0.out.below hb F0.out.lt; have F1 : Hid (LAt w1 (w.heap.size + 1) x.nx a x.ps.length cap) := F1.out.below hb F1.out.lt; have FB : Hid (Below w.heap.size w w1) := FB.out.trans (hb.mono FB.out.size); clear hb; obtain ⟨x0_0, x0_1, x0_2, x0_3, x0_4, x0_5, x0_6, x0_7, x0_8, x0_9, x0_10, x0_11⟩ := F0.out; obtain ⟨g0, g1⟩ := F1.out) | (go_at_call 31; refine (l1In_any _ _ _ _).mono ?_; rintro e w' ⟨rfl, hw⟩; obtain rfl := hw.symm; clear hw))
        clear x0_0 x0_1 x0_2 x0_3 x0_4 x0_5 x0_6 x0_7 x0_8 x0_9 x0_10 x0_11 g0 g1
        go_loopw [6] (fun ii wr => ∃ i : Nat, ii = .int .i64 i ∧ i ≤ x.ps.length ∧ (∀ j q, j < i → x.ps[j]? = some q → Hs.pers h x.nx (if j = 0 then 0 else lastId x.ps j) q = 0) ∧ HAt wr w.heap.size h ∧ LAt wr (w.heap.size + 1) x.nx a x.ps.length cap ∧ Below w.heap.size w wr) (fun ii _ => x.ps.length - (intOf ii).toNat)
        case atStart => exact ⟨0, rfl, by omega, fun j q hj => absurd hj (by omega), F0.out, F1.out, FB.out⟩
        case round =>
          obtain ⟨i, rfl, hi, hok, h0, h1, h2⟩ := hrel
          have HOK : Hid (∀ j q, j < i → x.ps[j]? = some q → Hs.pers h x.nx (if j = 0 then 0 else lastId x.ps j) q = 0) := hok
          have F0 : Hid (HAt wr w.heap.size h) := h0
          have F1 : Hid (LAt wr (w.heap.size + 1) x.nx a x.ps.length cap) := h1
          have FB : Hid (Below w.heap.size w wr) := h2
          clear h0 h1 h2 hok
          obtain ⟨x0_0, x0_1, x0_2, x0_3, x0_4, x0_5, x0_6, x0_7, x0_8, x0_9, x0_10, x0_11⟩ := F0.out
          obtain ⟨g0, g1⟩ := F1.out
          by_cases hlt : i < x.ps.length
          · obtain ⟨p, hp⟩ : ∃ p, x.ps[i]? = some p := ⟨_, List.getElem?_eq_getElem hlt⟩
            have H0 : Hid (x.ps[i]? = some p) := hp
            have FS : Hid (Hs.first h x.nx 0 x.ps = if Hs.pers h x.nx (if i = 0 then 0 else lastId x.ps i) p = 0 then Hs.first h x.nx p.id (x.ps.drop (i + 1)) else Hs.pers h x.nx (if i = 0 then 0 else lastId x.ps i) p) := first_step hp HOK.out
            have el : (if i = 0 then 0 else lastId x.ps i) = lastId x.ps i := by
              cases i with
              | zero => rfl
              | succ i => rw [if_neg (by omega)]
            rw [el] at FS
            rcases HP.out with hz | ⟨b, o, ha, hbl, h7⟩
            · rw [hz] at hlt; simp at hlt
            have HA : Hid (a = some ⟨b, o, none⟩) := ha
            clear ha
            have FQ : Hid (∀ i p, x.ps[i]? = some p → P7 wr b (o + i * 7) p) := fun j q hq => (h7 j q hq).below FB.out hbl
            obtain ⟨c, hc⟩ : ∃ c, Hs.pers h x.nx (lastId x.ps i) p = c := ⟨_, rfl⟩
            rw [hc] at FS
            have HC : Hid (Hs.pers h x.nx (lastId x.ps i) p = c) := hc
            clear hc h7 hp
            by_cases c0 : c = 0
            · subst c0
              have HOK' : Hid (∀ j q, j < i + 1 → x.ps[j]? = some q → Hs.pers h x.nx (if j = 0 then 0 else lastId x.ps j) q = 0) := by
                intro j q hj hq
                by_cases ej : j = i
                · subst ej
                  rw [H0.out] at hq
                  cases hq
                  rw [el]
                  exact HC.out
                · exact HOK.out j q (by omega) hq
              clear el
              go_wp2_with (go_at_call 52; refine (l7Person_any h hf (w.heap.size + 1) b o x.ps.length cap x.nx kk.1 kk.2 x.ps i p H0.out rfl (by omega) _ (by have q := F1.out; rw [HA.out] at q; exact q) FQ.out).mono ?_; rw [HC.out]; rintro e w2 ⟨rfl, hb⟩; have F0 : Hid (HAt w2 w.heap.size h) := F0.out.below hb F0.out.lt; have F1 : Hid (LAt w2 (w.heap.size + 1) x.nx a x.ps.length cap) := F1.out.below hb F1.out.lt; have FB : Hid (Below w.heap.size w w2) := FB.out.trans (hb.mono FB.out.size); clear hb)
              go_roundw
              case rel => exact ⟨i + 1, by simp, by omega, HOK'.out, F0.out, F1.out, FB.out⟩
              case measure => simp [intOf]; omega
            · have hn : (c != 0) = true := by simpa using c0
              have HR : Hid (c = r) := by
                have q := FS.out
                rw [if_neg c0] at q
                have z := HR.out
                rw [q, if_neg c0] at z
                exact z
              clear el c0 FS
              go_wp2_with (go_at_call 52; refine (l7Person_any h hf (w.heap.size + 1) b o x.ps.length cap x.nx kk.1 kk.2 x.ps i p H0.out rfl (by omega) _ (by have q := F1.out; rw [HA.out] at q; exact q) FQ.out).mono ?_; rw [HC.out]; rintro e w2 ⟨rfl, hb⟩; have FB : Hid (Below w.heap.size w w2) := FB.out.trans (hb.mono FB.out.size); clear hb)
              go_ret
              exact ⟨ret_int HR.out, FB.out⟩
          · have ei : i = x.ps.length := by omega
            subst ei
            have ef : Hs.first h x.nx 0 x.ps = 0 := first_all HOK.out
            have HR : Hid ((if h.qu < cnt 0 (-1) 0 x.ps then 2 else if Hs.over h x.ps = true then 2 else 0) = r) := by
              have q := HR.out
              rw [if_pos ef] at q
              exact q
            clear ef HOK hlt hi
            go_wp2_with fail
            by_cases kq : h.qu < cnt 0 (-1) 0 x.ps
            · have HR : Hid ((2 : Int) = r) := by
                have q := HR.out
                rw [if_pos kq] at q
                exact q
              have b3 : decide (h.qu < (cnt 0 (-1) 0 x.ps : Int)) = true := decide_eq_true kq
              have F0 : Hid (HAt wr.drew w.heap.size h) := F0.out.below (Below.refl _ _).drew F0.out.lt
              have F1 : Hid (LAt wr.drew (w.heap.size + 1) x.nx a x.ps.length cap) := F1.out.below (Below.refl _ _).drew F1.out.lt
              have FB : Hid (Below w.heap.size w wr.drew) := FB.out.drew
              obtain ⟨x0_0, x0_1, x0_2, x0_3, x0_4, x0_5, x0_6, x0_7, x0_8, x0_9, x0_10, x0_11⟩ := F0.out
              refine wp_region_held_drew (S := (fun w'' => w''.cell? ⟨w.heap.size, 0, none⟩ = some (.int .i64 h.fl) ∧ w''.cell? ⟨w.heap.size, 1, none⟩ = some (.int .i64 h.gp) ∧ w''.cell? ⟨w.heap.size, 2, none⟩ = some (.int .i64 h.ln) ∧ w''.cell? ⟨w.heap.size, 3, none⟩ = some (.int .i64 h.rf) ∧ w''.cell? ⟨w.heap.size, 4, none⟩ = some (.int .i64 h.sp) ∧ w''.cell? ⟨w.heap.size, 5, none⟩ = some (.int .i64 h.pu) ∧ w''.cell? ⟨w.heap.size, 6, none⟩ = some (.int .i64 h.br) ∧ w''.cell? ⟨w.heap.size, 7, none⟩ = some (.int .i64 h.dr) ∧ w''.cell? ⟨w.heap.size, 8, none⟩ = some (.int .i64 h.lv) ∧ w''.cell? ⟨w.heap.size, 9, none⟩ = some (.int .i64 h.dO) ∧ w''.cell? ⟨w.heap.size, 10, none⟩ = some (.int .i64 h.ld) ∧ w''.cell? ⟨w.heap.size, 11, none⟩ = some (.int .i64 h.qu))) (by kernel_rfl) (by (try dsimp only); first | exact ⟨x0_0, x0_1, x0_2, x0_3, x0_4, x0_5, x0_6, x0_7, x0_8, x0_9, x0_10, x0_11⟩ | go_keep) (fun hHeld => ?_)
              obtain ⟨v_1, hw1⟩ : ∃ v_1, v_1 = wr.drew := ⟨_, rfl⟩
              have F0 : Hid (HAt v_1 w.heap.size h) := by rw [hw1]; exact F0.out
              have F1 : Hid (LAt v_1 (w.heap.size + 1) x.nx a x.ps.length cap) := by rw [hw1]; exact F1.out
              have FB : Hid (Below w.heap.size w v_1) := by rw [hw1]; exact FB.out
              rw [← hw1] at hHeld ⊢
              clear hw1
              obtain ⟨x0_0, x0_1, x0_2, x0_3, x0_4, x0_5, x0_6, x0_7, x0_8, x0_9, x0_10, x0_11⟩ := F0.out
              refine tkz 1 rfl ?_
              refine tkz 2 rfl ?_
              refine wpAnyH_ready (rs := [0]) (by kernel_rfl) (by simp) ?_
              refine (AllReadyH.cons rfl (fun K hK => ?_) AllReadyH.nil)
              go_simp
              refine (l7Count_any (w.heap.size + 1) x.nx a cap x.ps 0 (-1) 0 hl _ F1.out ((HP.out.below FB.out (Nat.le_refl _)).mono FB.out.size)).mono ?_
              rintro e v_2 ⟨rfl, hb⟩
              have F0 : Hid (HAt v_2 w.heap.size h) := F0.out.below hb F0.out.lt
              have F1 : Hid (LAt v_2 (w.heap.size + 1) x.nx a x.ps.length cap) := F1.out.below hb F1.out.lt
              have FB : Hid (Below w.heap.size w v_2) := FB.out.trans (hb.mono FB.out.size)
              clear hb
              obtain ⟨x0_0, x0_1, x0_2, x0_3, x0_4, x0_5, x0_6, x0_7, x0_8, x0_9, x0_10, x0_11⟩ := F0.out
              try dsimp only
              refine hK.out _ _ (by (try dsimp only); first | exact ⟨x0_0, x0_1, x0_2, x0_3, x0_4, x0_5, x0_6, x0_7, x0_8, x0_9, x0_10, x0_11⟩ | go_keep) (fun hHeld => ?_)
              clear hK K
              try simp only [Act.put, List.getElem_toArray, List.getElem_cons_succ, List.getElem_cons_zero, List.setIfInBounds_toArray, List.set_cons_zero, List.set_cons_succ]
              refine tkz 3 rfl ?_
              refine wpAnyH_done (by kernel_rfl) ?_ _
              go_wp2_with fail
              go_ret
              exact ⟨ret_int HR.out, FB.out⟩
            · have HR : Hid ((if Hs.over h x.ps = true then 2 else 0) = r) := by
                have q := HR.out
                rw [if_neg kq] at q
                exact q
              have b3 : decide (h.qu < (cnt 0 (-1) 0 x.ps : Int)) = false := decide_eq_false kq
              have F0 : Hid (HAt wr.drew w.heap.size h) := F0.out.below (Below.refl _ _).drew F0.out.lt
              have F1 : Hid (LAt wr.drew (w.heap.size + 1) x.nx a x.ps.length cap) := F1.out.below (Below.refl _ _).drew F1.out.lt
              have FB : Hid (Below w.heap.size w wr.drew) := FB.out.drew
              obtain ⟨x0_0, x0_1, x0_2, x0_3, x0_4, x0_5, x0_6, x0_7, x0_8, x0_9, x0_10, x0_11⟩ := F0.out
              refine wp_region_held_drew (S := (fun w'' => w''.cell? ⟨w.heap.size, 0, none⟩ = some (.int .i64 h.fl) ∧ w''.cell? ⟨w.heap.size, 1, none⟩ = some (.int .i64 h.gp) ∧ w''.cell? ⟨w.heap.size, 2, none⟩ = some (.int .i64 h.ln) ∧ w''.cell? ⟨w.heap.size, 3, none⟩ = some (.int .i64 h.rf) ∧ w''.cell? ⟨w.heap.size, 4, none⟩ = some (.int .i64 h.sp) ∧ w''.cell? ⟨w.heap.size, 5, none⟩ = some (.int .i64 h.pu) ∧ w''.cell? ⟨w.heap.size, 6, none⟩ = some (.int .i64 h.br) ∧ w''.cell? ⟨w.heap.size, 7, none⟩ = some (.int .i64 h.dr) ∧ w''.cell? ⟨w.heap.size, 8, none⟩ = some (.int .i64 h.lv) ∧ w''.cell? ⟨w.heap.size, 9, none⟩ = some (.int .i64 h.dO) ∧ w''.cell? ⟨w.heap.size, 10, none⟩ = some (.int .i64 h.ld) ∧ w''.cell? ⟨w.heap.size, 11, none⟩ = some (.int .i64 h.qu))) (by kernel_rfl) (by (try dsimp only); first | exact ⟨x0_0, x0_1, x0_2, x0_3, x0_4, x0_5, x0_6, x0_7, x0_8, x0_9, x0_10, x0_11⟩ | go_keep) (fun hHeld => ?_)
              obtain ⟨v_3, hw1⟩ : ∃ v_3, v_3 = wr.drew := ⟨_, rfl⟩
              have F0 : Hid (HAt v_3 w.heap.size h) := by rw [hw1]; exact F0.out
              have F1 : Hid (LAt v_3 (w.heap.size + 1) x.nx a x.ps.length cap) := by rw [hw1]; exact F1.out
              have FB : Hid (Below w.heap.size w v_3) := by rw [hw1]; exact FB.out
              rw [← hw1] at hHeld ⊢
              clear hw1
              obtain ⟨x0_0, x0_1, x0_2, x0_3, x0_4, x0_5, x0_6, x0_7, x0_8, x0_9, x0_10, x0_11⟩ := F0.out
              refine tkz 1 rfl ?_
              refine tkz 2 rfl ?_
              refine wpAnyH_ready (rs := [0]) (by kernel_rfl) (by simp) ?_
              refine (AllReadyH.cons rfl (fun K hK => ?_) AllReadyH.nil)
              go_simp
              refine (l7Count_any (w.heap.size + 1) x.nx a cap x.ps 0 (-1) 0 hl _ F1.out ((HP.out.below FB.out (Nat.le_refl _)).mono FB.out.size)).mono ?_
              rintro e v_4 ⟨rfl, hb⟩
              have F0 : Hid (HAt v_4 w.heap.size h) := F0.out.below hb F0.out.lt
              have F1 : Hid (LAt v_4 (w.heap.size + 1) x.nx a x.ps.length cap) := F1.out.below hb F1.out.lt
              have FB : Hid (Below w.heap.size w v_4) := FB.out.trans (hb.mono FB.out.size)
              clear hb
              obtain ⟨x0_0, x0_1, x0_2, x0_3, x0_4, x0_5, x0_6, x0_7, x0_8, x0_9, x0_10, x0_11⟩ := F0.out
              try dsimp only
              refine hK.out _ _ (by (try dsimp only); first | exact ⟨x0_0, x0_1, x0_2, x0_3, x0_4, x0_5, x0_6, x0_7, x0_8, x0_9, x0_10, x0_11⟩ | go_keep) (fun hHeld => ?_)
              clear hK K
              try simp only [Act.put, List.getElem_toArray, List.getElem_cons_succ, List.getElem_cons_zero, List.setIfInBounds_toArray, List.set_cons_zero, List.set_cons_succ]
              refine tkz 3 rfl ?_
              refine wpAnyH_done (by kernel_rfl) ?_ _
              go_wp2_with fail
              obtain ⟨w3, hW_⟩ : ∃ w3, w3 = v_4 := ⟨_, rfl⟩
              have F0 : Hid (HAt w3 w.heap.size h) := by rw [hW_]; exact F0.out
              have F1 : Hid (LAt w3 (w.heap.size + 1) x.nx a x.ps.length cap) := by rw [hW_]; exact F1.out
              have FB : Hid (Below w.heap.size w w3) := by rw [hW_]; exact FB.out
              rw [← hW_]
              clear hW_
              clear kq
              go_loopw [8] (fun ii wr => ∃ k : Nat, ii = .int .i64 k ∧ k ≤ 6 ∧ (∀ j, j < k → ¬ h.ld < cnt 1 ((j / 2 : Nat) : Int) ((j % 2 : Nat) : Int) x.ps) ∧ HAt wr w.heap.size h ∧ LAt wr (w.heap.size + 1) x.nx a x.ps.length cap ∧ Below w.heap.size w wr) (fun ii _ => 6 - (intOf ii).toNat)
              case atStart => exact ⟨0, rfl, by omega, fun j hj => absurd hj (by omega), F0.out, F1.out, FB.out⟩
              case round =>
                obtain ⟨k, rfl, hk, hok, h0, h1, h2⟩ := hrel
                have HOK : Hid (∀ j, j < k → ¬ h.ld < cnt 1 ((j / 2 : Nat) : Int) ((j % 2 : Nat) : Int) x.ps) := hok
                have F0 : Hid (HAt wr w.heap.size h) := h0
                have F1 : Hid (LAt wr (w.heap.size + 1) x.nx a x.ps.length cap) := h1
                have FB : Hid (Below w.heap.size w wr) := h2
                clear h0 h1 h2 hok
                by_cases hlt : k < 6
                · obtain ⟨s1, hs1⟩ : ∃ s1 : Int, ((k / 2 : Nat) : Int) = s1 := ⟨_, rfl⟩
                  obtain ⟨s2, hs2⟩ : ∃ s2 : Int, ((k % 2 : Nat) : Int) = s2 := ⟨_, rfl⟩
                  have eq : Int.tdiv (k : Int) 2 = s1 := by rw [Int.tdiv_eq_ediv_of_nonneg (by omega)]; omega
                  have er : Int.tmod (k : Int) 2 = s2 := by rw [Int.tmod_eq_emod_of_nonneg (by omega)]; omega
                  have wq : IntKind.i64.wrap s1 = s1 := IntWalk.i64_in _ (by omega)
                  have wr_ : IntKind.i64.wrap s2 = s2 := IntWalk.i64_in _ (by omega)
                  have wk : IntKind.i64.wrap ((k : Int) + 1) = (k : Int) + 1 := IntWalk.i64_in _ (by omega)
                  have H1 : Hid (((k / 2 : Nat) : Int) = s1) := hs1
                  have H2 : Hid (((k % 2 : Nat) : Int) = s2) := hs2
                  clear hs1 hs2
                  go_wp2_with fail
                  by_cases kc : h.ld < cnt 1 s1 s2 x.ps
                  · have ov : Hs.over h x.ps = true := by
                      unfold Hs.over
                      rw [List.any_eq_true]
                      exact ⟨k, List.mem_range.2 hlt, by rw [H1.out, H2.out]; exact decide_eq_true kc⟩
                    have HR : Hid ((2 : Int) = r) := by
                      have q := HR.out
                      rw [ov, if_pos rfl] at q
                      exact q
                    have b4 : decide (h.ld < (cnt 1 s1 s2 x.ps : Int)) = true := decide_eq_true kc
                    clear ov kc
                    have F0 : Hid (HAt wr.drew w.heap.size h) := F0.out.below (Below.refl _ _).drew F0.out.lt
                    have F1 : Hid (LAt wr.drew (w.heap.size + 1) x.nx a x.ps.length cap) := F1.out.below (Below.refl _ _).drew F1.out.lt
                    have FB : Hid (Below w.heap.size w wr.drew) := FB.out.drew
                    obtain ⟨x0_0, x0_1, x0_2, x0_3, x0_4, x0_5, x0_6, x0_7, x0_8, x0_9, x0_10, x0_11⟩ := F0.out
                    refine wp_region_held_drew (S := (fun w'' => w''.cell? ⟨w.heap.size, 0, none⟩ = some (.int .i64 h.fl) ∧ w''.cell? ⟨w.heap.size, 1, none⟩ = some (.int .i64 h.gp) ∧ w''.cell? ⟨w.heap.size, 2, none⟩ = some (.int .i64 h.ln) ∧ w''.cell? ⟨w.heap.size, 3, none⟩ = some (.int .i64 h.rf) ∧ w''.cell? ⟨w.heap.size, 4, none⟩ = some (.int .i64 h.sp) ∧ w''.cell? ⟨w.heap.size, 5, none⟩ = some (.int .i64 h.pu) ∧ w''.cell? ⟨w.heap.size, 6, none⟩ = some (.int .i64 h.br) ∧ w''.cell? ⟨w.heap.size, 7, none⟩ = some (.int .i64 h.dr) ∧ w''.cell? ⟨w.heap.size, 8, none⟩ = some (.int .i64 h.lv) ∧ w''.cell? ⟨w.heap.size, 9, none⟩ = some (.int .i64 h.dO) ∧ w''.cell? ⟨w.heap.size, 10, none⟩ = some (.int .i64 h.ld) ∧ w''.cell? ⟨w.heap.size, 11, none⟩ = some (.int .i64 h.qu))) (by kernel_rfl) (by (try dsimp only); first | exact ⟨x0_0, x0_1, x0_2, x0_3, x0_4, x0_5, x0_6, x0_7, x0_8, x0_9, x0_10, x0_11⟩ | go_keep) (fun hHeld => ?_)
                    obtain ⟨v_5, hw1⟩ : ∃ v_5, v_5 = wr.drew := ⟨_, rfl⟩
                    have F0 : Hid (HAt v_5 w.heap.size h) := by rw [hw1]; exact F0.out
                    have F1 : Hid (LAt v_5 (w.heap.size + 1) x.nx a x.ps.length cap) := by rw [hw1]; exact F1.out
                    have FB : Hid (Below w.heap.size w v_5) := by rw [hw1]; exact FB.out
                    rw [← hw1] at hHeld ⊢
                    clear hw1
                    obtain ⟨x0_0, x0_1, x0_2, x0_3, x0_4, x0_5, x0_6, x0_7, x0_8, x0_9, x0_10, x0_11⟩ := F0.out
                    refine tkz 0 rfl ?_
                    refine tkz 1 rfl ?_
                    refine tkz 2 rfl ?_
                    refine tkz 3 rfl ?_
                    refine tkz 5 rfl ?_
                    refine tkz 6 rfl ?_
                    refine wpAnyH_ready (rs := [4]) (by kernel_rfl) (by simp) ?_
                    refine (AllReadyH.cons rfl (fun K hK => ?_) AllReadyH.nil)
                    go_simp
                    refine (l7Count_any (w.heap.size + 1) x.nx a cap x.ps 1 s1 s2 hl _ F1.out ((HP.out.below FB.out (Nat.le_refl _)).mono FB.out.size)).mono ?_
                    rintro e v_6 ⟨rfl, hb⟩
                    have F0 : Hid (HAt v_6 w.heap.size h) := F0.out.below hb F0.out.lt
                    have F1 : Hid (LAt v_6 (w.heap.size + 1) x.nx a x.ps.length cap) := F1.out.below hb F1.out.lt
                    have FB : Hid (Below w.heap.size w v_6) := FB.out.trans (hb.mono FB.out.size)
                    clear hb
                    obtain ⟨x0_0, x0_1, x0_2, x0_3, x0_4, x0_5, x0_6, x0_7, x0_8, x0_9, x0_10, x0_11⟩ := F0.out
                    try dsimp only
                    refine hK.out _ _ (by (try dsimp only); first | exact ⟨x0_0, x0_1, x0_2, x0_3, x0_4, x0_5, x0_6, x0_7, x0_8, x0_9, x0_10, x0_11⟩ | go_keep) (fun hHeld => ?_)
                    clear hK K
                    try simp only [Act.put, List.getElem_toArray, List.getElem_cons_succ, List.getElem_cons_zero, List.setIfInBounds_toArray, List.set_cons_zero, List.set_cons_succ]
                    refine tkz 7 rfl ?_
                    refine wpAnyH_done (by kernel_rfl) ?_ _
                    go_wp2_with fail
                    go_ret
                    exact ⟨ret_int HR.out, FB.out⟩
                  · have b4 : decide (h.ld < (cnt 1 s1 s2 x.ps : Int)) = false := decide_eq_false kc
                    have HOK' : Hid (∀ j, j < k + 1 → ¬ h.ld < cnt 1 ((j / 2 : Nat) : Int) ((j % 2 : Nat) : Int) x.ps) := by
                      intro j hj
                      by_cases ej : j = k
                      · subst ej; rw [H1.out, H2.out]; exact kc
                      · have z := HOK.out j (by omega)
                        omega
                    clear kc
                    have F0 : Hid (HAt wr.drew w.heap.size h) := F0.out.below (Below.refl _ _).drew F0.out.lt
                    have F1 : Hid (LAt wr.drew (w.heap.size + 1) x.nx a x.ps.length cap) := F1.out.below (Below.refl _ _).drew F1.out.lt
                    have FB : Hid (Below w.heap.size w wr.drew) := FB.out.drew
                    obtain ⟨x0_0, x0_1, x0_2, x0_3, x0_4, x0_5, x0_6, x0_7, x0_8, x0_9, x0_10, x0_11⟩ := F0.out
                    refine wp_region_held_drew (S := (fun w'' => w''.cell? ⟨w.heap.size, 0, none⟩ = some (.int .i64 h.fl) ∧ w''.cell? ⟨w.heap.size, 1, none⟩ = some (.int .i64 h.gp) ∧ w''.cell? ⟨w.heap.size, 2, none⟩ = some (.int .i64 h.ln) ∧ w''.cell? ⟨w.heap.size, 3, none⟩ = some (.int .i64 h.rf) ∧ w''.cell? ⟨w.heap.size, 4, none⟩ = some (.int .i64 h.sp) ∧ w''.cell? ⟨w.heap.size, 5, none⟩ = some (.int .i64 h.pu) ∧ w''.cell? ⟨w.heap.size, 6, none⟩ = some (.int .i64 h.br) ∧ w''.cell? ⟨w.heap.size, 7, none⟩ = some (.int .i64 h.dr) ∧ w''.cell? ⟨w.heap.size, 8, none⟩ = some (.int .i64 h.lv) ∧ w''.cell? ⟨w.heap.size, 9, none⟩ = some (.int .i64 h.dO) ∧ w''.cell? ⟨w.heap.size, 10, none⟩ = some (.int .i64 h.ld) ∧ w''.cell? ⟨w.heap.size, 11, none⟩ = some (.int .i64 h.qu))) (by kernel_rfl) (by (try dsimp only); first | exact ⟨x0_0, x0_1, x0_2, x0_3, x0_4, x0_5, x0_6, x0_7, x0_8, x0_9, x0_10, x0_11⟩ | go_keep) (fun hHeld => ?_)
                    obtain ⟨v_7, hw1⟩ : ∃ v_7, v_7 = wr.drew := ⟨_, rfl⟩
                    have F0 : Hid (HAt v_7 w.heap.size h) := by rw [hw1]; exact F0.out
                    have F1 : Hid (LAt v_7 (w.heap.size + 1) x.nx a x.ps.length cap) := by rw [hw1]; exact F1.out
                    have FB : Hid (Below w.heap.size w v_7) := by rw [hw1]; exact FB.out
                    rw [← hw1] at hHeld ⊢
                    clear hw1
                    obtain ⟨x0_0, x0_1, x0_2, x0_3, x0_4, x0_5, x0_6, x0_7, x0_8, x0_9, x0_10, x0_11⟩ := F0.out
                    refine tkz 0 rfl ?_
                    refine tkz 1 rfl ?_
                    refine tkz 2 rfl ?_
                    refine tkz 3 rfl ?_
                    refine tkz 5 rfl ?_
                    refine tkz 6 rfl ?_
                    refine wpAnyH_ready (rs := [4]) (by kernel_rfl) (by simp) ?_
                    refine (AllReadyH.cons rfl (fun K hK => ?_) AllReadyH.nil)
                    go_simp
                    refine (l7Count_any (w.heap.size + 1) x.nx a cap x.ps 1 s1 s2 hl _ F1.out ((HP.out.below FB.out (Nat.le_refl _)).mono FB.out.size)).mono ?_
                    rintro e v_8 ⟨rfl, hb⟩
                    have F0 : Hid (HAt v_8 w.heap.size h) := F0.out.below hb F0.out.lt
                    have F1 : Hid (LAt v_8 (w.heap.size + 1) x.nx a x.ps.length cap) := F1.out.below hb F1.out.lt
                    have FB : Hid (Below w.heap.size w v_8) := FB.out.trans (hb.mono FB.out.size)
                    clear hb
                    obtain ⟨x0_0, x0_1, x0_2, x0_3, x0_4, x0_5, x0_6, x0_7, x0_8, x0_9, x0_10, x0_11⟩ := F0.out
                    try dsimp only
                    refine hK.out _ _ (by (try dsimp only); first | exact ⟨x0_0, x0_1, x0_2, x0_3, x0_4, x0_5, x0_6, x0_7, x0_8, x0_9, x0_10, x0_11⟩ | go_keep) (fun hHeld => ?_)
                    clear hK K
                    try simp only [Act.put, List.getElem_toArray, List.getElem_cons_succ, List.getElem_cons_zero, List.setIfInBounds_toArray, List.set_cons_zero, List.set_cons_succ]
                    refine tkz 7 rfl ?_
                    refine wpAnyH_done (by kernel_rfl) ?_ _
                    go_wp2_with fail
                    go_roundw
                    case rel => exact ⟨k + 1, by simp, by omega, HOK'.out, F0.out, F1.out, FB.out⟩
                    case measure => simp [intOf]; omega
                · have ek : k = 6 := by omega
                  subst ek
                  have ov : Hs.over h x.ps = false := by
                    unfold Hs.over
                    rw [List.any_eq_false]
                    intro j hj
                    rw [List.mem_range] at hj
                    simpa using HOK.out j hj
                  have HR : Hid ((0 : Int) = r) := by
                    have q := HR.out
                    rw [ov, if_neg (by simp)] at q
                    exact q
                  clear ov
                  go_wp2_with fail
                  go_ret
                  exact ⟨ret_int HR.out, FB.out⟩
  · rw [if_neg hf]
    have hn : (h.fault != 0) = true := by simpa using hf
    clear hf
    go_enter Tryz.func33, Tryz.ntmps33
    go_wp2_with (go_at_call 28; refine (specFault_any h _).mono ?_; rintro e w1 ⟨rfl, hb⟩; have F0 : Hid (HAt w1 w.heap.size h) := F0.out.below hb F0.out.lt; have F1 : Hid (LAt w1 (w.heap.size + 1) x.nx a x.ps.length cap) := F1.out.below hb F1.out.lt; have FB : Hid (Below w.heap.size w w1) := FB.out.trans (hb.mono FB.out.size); clear hb; obtain ⟨x0_0, x0_1, x0_2, x0_3, x0_4, x0_5, x0_6, x0_7, x0_8, x0_9, x0_10, x0_11⟩ := F0.out; obtain ⟨g0, g1⟩ := F1.out)
    go_ret
    exact ⟨rfl, FB.out⟩
end Go.Proofs.YtnfdplfifpmhoaaGreatDoor
