/-
  The model's spans: what a car covers; CoverOf.
-/
import Derived.Test.YtpfihpplpefikaaCellsN
import Derived.Test.YtpfihpplpefikaaCellsS
import Derived.Test.YtpfihpplpefikaaCarB
import Derived.Test.YtpfihpplpefikaaHouseP
import Derived.Test.YtpfihpplpefikaaFnd
namespace Go.Proofs.Ytpfihpplpefikaa
open Go.RowKit Pl
set_option linter.unusedSimpArgs false
set_option linter.unusedVariables false

theorem covLo_yes {h : Hs} {low z : Int} (z1 : -1 ≤ z) (k : h.level z - h.lv ≤ low) : Hs.covLo h low (z + 1 + 1).toNat = z := by
  have e : (z + 1 + 1).toNat = (z + 1).toNat + 1 := by omega
  have f : (((z + 1).toNat : Nat) : Int) - 1 = z := by omega
  rw [e]; show (if _ then _ else _) = z
  rw [f, if_pos k]
theorem covLo_no {h : Hs} {low z : Int} (z1 : -1 ≤ z) (k : ¬ h.level z - h.lv ≤ low) : Hs.covLo h low (z + 1 + 1).toNat = Hs.covLo h low (z + 1).toNat := by
  have e : (z + 1 + 1).toNat = (z + 1).toNat + 1 := by omega
  have f : (((z + 1).toNat : Nat) : Int) - 1 = z := by omega
  rw [e]; show (if _ then _ else _) = _
  rw [f, if_neg k]
theorem covHi_yes {h : Hs} {high z : Int} (z1 : z ≤ h.fl) (k : high ≤ h.level z + h.lv) : Hs.covHi h high (h.fl - (z - 1)).toNat = z := by
  have e : (h.fl - (z - 1)).toNat = (h.fl - z).toNat + 1 := by omega
  have f : h.fl - (((h.fl - z).toNat : Nat) : Int) = z := by omega
  rw [e]; show (if _ then _ else _) = z
  rw [f, if_pos k]
theorem covHi_no {h : Hs} {high z : Int} (z1 : z ≤ h.fl) (k : ¬ high ≤ h.level z + h.lv) : Hs.covHi h high (h.fl - (z - 1)).toNat = Hs.covHi h high (h.fl - z).toNat := by
  have e : (h.fl - (z - 1)).toNat = (h.fl - z).toNat + 1 := by omega
  have f : h.fl - (((h.fl - z).toNat : Nat) : Int) = z := by omega
  rw [e]; show (if _ then _ else _) = _
  rw [f, if_neg k]
set_option maxRecDepth 20000 in
set_option maxHeartbeats 16000000 in
theorem l6Cover_any (h : Hs) (c : Cs) (k : CarOk h c) (g : Sp) (hg : Hs.cover h c = g) (w : World) :
    Calls Try.prog 68 #[.agg #[.int .i64 h.fl, .int .i64 h.gp, .int .i64 h.ln, .int .i64 h.rf, .int .i64 h.sp, .int .i64 h.pu, .int .i64 h.br, .int .i64 h.dr, .int .i64 h.lv, .int .i64 h.dO, .int .i64 h.ld, .int .i64 h.qu], .agg #[.int .i64 c.pos, .int .i64 c.vel, .int .i64 c.door]] w fun e w' => e = .returned (.agg #[.int .i64 g.lo, .int .i64 g.hi]) ∧ Below w.heap.size w w' := by
  have o := k.ok
  have en := car_env k
  have f1 := o.fl1; have f2 := o.fl2; have v1 := o.lv1; have v2 := o.lv2
  obtain ⟨lw, hlw⟩ : ∃ lw, h.lo c.pos c.vel = lw := ⟨_, rfl⟩
  obtain ⟨hg_, hhg⟩ : ∃ hg_, h.hi c.pos c.vel = hg_ := ⟨_, rfl⟩
  unfold Hs.cover at hg
  rw [hlw, hhg] at hg
  have HGv : Hid ((⟨Hs.covLo h lw (h.fl + 2).toNat, Hs.covHi h hg_ (h.fl + 2).toNat⟩ : Sp) = g) := hg
  have HLW : Hid (h.lo c.pos c.vel = lw) := hlw
  have HHG : Hid (h.hi c.pos c.vel = hg_) := hhg
  have HO : Hid h.Ok := o
  clear o k hlw hhg hg
  have F0 : Hid (HAt (((w.alloc (.cells #[.int .i64 h.fl, .int .i64 h.gp, .int .i64 h.ln, .int .i64 h.rf, .int .i64 h.sp, .int .i64 h.pu, .int .i64 h.br, .int .i64 h.dr, .int .i64 h.lv, .int .i64 h.dO, .int .i64 h.ld, .int .i64 h.qu] 25)).alloc (.cells #[.int .i64 c.pos, .int .i64 c.vel, .int .i64 c.door] 38)).alloc (.cells #[.int .i64 0, .int .i64 0] 27)) w.heap.size h) := ((HAt.at_ w h _ _ (by simp)).alloc _).alloc _
  have F1 : Hid (CW (((w.alloc (.cells #[.int .i64 h.fl, .int .i64 h.gp, .int .i64 h.ln, .int .i64 h.rf, .int .i64 h.sp, .int .i64 h.pu, .int .i64 h.br, .int .i64 h.dr, .int .i64 h.lv, .int .i64 h.dO, .int .i64 h.ld, .int .i64 h.qu] 25)).alloc (.cells #[.int .i64 c.pos, .int .i64 c.vel, .int .i64 c.door] 38)).alloc (.cells #[.int .i64 0, .int .i64 0] 27)) (w.heap.size + 1) c) := (CW.at_ _ c _ _ (by simp)).alloc _
  have F2 : Hid (MW (((w.alloc (.cells #[.int .i64 h.fl, .int .i64 h.gp, .int .i64 h.ln, .int .i64 h.rf, .int .i64 h.sp, .int .i64 h.pu, .int .i64 h.br, .int .i64 h.dr, .int .i64 h.lv, .int .i64 h.dO, .int .i64 h.ld, .int .i64 h.qu] 25)).alloc (.cells #[.int .i64 c.pos, .int .i64 c.vel, .int .i64 c.door] 38)).alloc (.cells #[.int .i64 0, .int .i64 0] 27)) (w.heap.size + 2) (⟨0, 0⟩ : Sp)) := MW.at_ _ ⟨0, 0⟩ _ _ (by simp)
  have FB : Hid (Below w.heap.size w (((w.alloc (.cells #[.int .i64 h.fl, .int .i64 h.gp, .int .i64 h.ln, .int .i64 h.rf, .int .i64 h.sp, .int .i64 h.pu, .int .i64 h.br, .int .i64 h.dr, .int .i64 h.lv, .int .i64 h.dO, .int .i64 h.ld, .int .i64 h.qu] 25)).alloc (.cells #[.int .i64 c.pos, .int .i64 c.vel, .int .i64 c.door] 38)).alloc (.cells #[.int .i64 0, .int .i64 0] 27))) := (((Below.refl _ _).alloc (Nat.le_refl _) _).alloc (by simp) _).alloc (by simp; omega) _
  go_enter Try.func68, Try.ntmps68
  go_upto_region 4 with (first | (go_at_call 53; refine (l3Low_any h HO.out _ _ (by omega) (by omega) (by omega) (by omega) _).mono ?_; rw [HLW.out]; rintro e w1 ⟨rfl, hb⟩; have F0 : Hid (HAt w1 w.heap.size h) := F0.out.below hb F0.out.lt; have F1 : Hid (CW w1 (w.heap.size + 1) c) := F1.out.below hb F1.out.lt; have F2 : Hid (MW w1 (w.heap.size + 2) (⟨0, 0⟩ : Sp)) := F2.out.below hb F2.out.lt; have FB : Hid (Below w.heap.size w w1) := FB.out.trans (hb.mono FB.out.size); clear hb; obtain ⟨x0_0, x0_1, x0_2, x0_3, x0_4, x0_5, x0_6, x0_7, x0_8, x0_9, x0_10, x0_11⟩ := F0.out; obtain ⟨x1_0, x1_1, x1_2, y1_0, y1_1, y1_2⟩ := F1.out; obtain ⟨x2_0, x2_1, y2_0, y2_1⟩ := F2.out) | (go_at_call 52; refine (l3High_any h HO.out _ _ (by omega) (by omega) (by omega) (by omega) _).mono ?_; rw [HHG.out]; rintro e w2 ⟨rfl, hb⟩; have F0 : Hid (HAt w2 w.heap.size h) := F0.out.below hb F0.out.lt; have F1 : Hid (CW w2 (w.heap.size + 1) c) := F1.out.below hb F1.out.lt; have F2 : Hid (MW w2 (w.heap.size + 2) (⟨0, 0⟩ : Sp)) := F2.out.below hb F2.out.lt; have FB : Hid (Below w.heap.size w w2) := FB.out.trans (hb.mono FB.out.size); clear hb; obtain ⟨x0_0, x0_1, x0_2, x0_3, x0_4, x0_5, x0_6, x0_7, x0_8, x0_9, x0_10, x0_11⟩ := F0.out; obtain ⟨x1_0, x1_1, x1_2, y1_0, y1_1, y1_2⟩ := F1.out; obtain ⟨x2_0, x2_1, y2_0, y2_1⟩ := F2.out))
  obtain ⟨ob, hbb⟩ : ∃ ob, ob = w2.heap.size := ⟨_, rfl⟩
  obtain ⟨w3, hw2⟩ : ∃ w3, w3 = w2.alloc (.cells #[.int .i64 (-1), .int .i64 h.fl] 27) := ⟨_, rfl⟩
  have lobF0 := F0.out.lt
  rw [← hbb] at lobF0
  have F0 : Hid (HAt w3 w.heap.size h) := by rw [hw2]; exact F0.out.alloc _
  have lobF1 := F1.out.lt
  rw [← hbb] at lobF1
  have F1 : Hid (CW w3 (w.heap.size + 1) c) := by rw [hw2]; exact F1.out.alloc _
  have lobF2 := F2.out.lt
  rw [← hbb] at lobF2
  have F2 : Hid (MW w3 (w.heap.size + 2) (⟨0, 0⟩ : Sp)) := by rw [hw2]; exact F2.out.alloc _
  have lobB : w.heap.size ≤ ob := by rw [hbb]; exact FB.out.size
  have FB : Hid (Below w.heap.size w w3) := by rw [hw2]; exact FB.out.alloc FB.out.size _
  have F3 : Hid (MW w3 ob (⟨-1, h.fl⟩ : Sp)) := by rw [hw2]; exact MW.at_ w2 ⟨-1, h.fl⟩ _ ob hbb
  rw [← hw2, ← hbb]
  clear hbb hw2
  clear x0_0 x0_1 x0_2 x0_3 x0_4 x0_5 x0_6 x0_7 x0_8 x0_9 x0_10 x0_11 x1_0 x1_1 x1_2 y1_0 y1_1 y1_2 x2_0 x2_1 y2_0 y2_1 F1 en
  go_wp2_with fail
  go_loopw [8] (fun nn wr => ∃ z : Int, nn = .int .i64 z ∧ -1 ≤ z ∧ z ≤ h.fl + 1 ∧ HAt wr w.heap.size h ∧ MW wr (w.heap.size + 2) (⟨0, 0⟩ : Sp) ∧ MW wr ob (⟨Hs.covLo h lw (z + 1).toNat, h.fl⟩ : Sp) ∧ Below w.heap.size w wr) (fun nn _ => (h.fl + 1 - intOf nn).toNat)
  case atStart => exact ⟨-1, rfl, by omega, by omega, F0.out, F2.out, F3.out, FB.out⟩
  case round =>
    obtain ⟨z, rfl, n1, n2, h0, h2, h3, h4⟩ := hrel
    have F0 : Hid (HAt wr w.heap.size h) := h0
    have F2 : Hid (MW wr (w.heap.size + 2) (⟨0, 0⟩ : Sp)) := h2
    have F3 : Hid (MW wr ob (⟨Hs.covLo h lw (z + 1).toNat, h.fl⟩ : Sp)) := h3
    have FB : Hid (Below w.heap.size w wr) := h4
    clear h0 h2 h3 h4
    obtain ⟨x0_0, x0_1, x0_2, x0_3, x0_4, x0_5, x0_6, x0_7, x0_8, x0_9, x0_10, x0_11⟩ := F0.out
    obtain ⟨z0, z1, z2, z3⟩ := F3.out
    by_cases hlt : z ≤ h.fl
    · obtain ⟨b1, b2⟩ := HO.out.level_bd z (by omega) (by omega)
      have ew : IntKind.i64.wrap (h.level z - h.lv) = h.level z - h.lv := IntWalk.i64_in _ (by omega)
      go_wp2_with fail
      clear z0 z1 z2 z3
      by_cases hd : h.level z - h.lv ≤ lw
      · have hd' : decide (h.level z - h.lv ≤ lw) = true := decide_eq_true hd
        have HD : Hid (h.level z - h.lv ≤ lw) := hd
        clear hd
        have F0 : Hid (HAt wr.drew w.heap.size h) := F0.out.below (Below.refl _ _).drew F0.out.lt
        have F2 : Hid (MW wr.drew (w.heap.size + 2) (⟨0, 0⟩ : Sp)) := F2.out.below (Below.refl _ _).drew F2.out.lt
        have F3 : Hid (MW wr.drew ob (⟨Hs.covLo h lw (z + 1).toNat, h.fl⟩ : Sp)) := F3.out.below (Below.refl _ _).drew F3.out.lt
        have FB : Hid (Below w.heap.size w wr.drew) := FB.out.drew
        obtain ⟨x0_0, x0_1, x0_2, x0_3, x0_4, x0_5, x0_6, x0_7, x0_8, x0_9, x0_10, x0_11⟩ := F0.out
        refine wp_region_held_drew (S := (fun w'' => w''.cell? ⟨w.heap.size, 0, none⟩ = some (.int .i64 h.fl) ∧ w''.cell? ⟨w.heap.size, 1, none⟩ = some (.int .i64 h.gp) ∧ w''.cell? ⟨w.heap.size, 2, none⟩ = some (.int .i64 h.ln) ∧ w''.cell? ⟨w.heap.size, 3, none⟩ = some (.int .i64 h.rf) ∧ w''.cell? ⟨w.heap.size, 4, none⟩ = some (.int .i64 h.sp) ∧ w''.cell? ⟨w.heap.size, 5, none⟩ = some (.int .i64 h.pu) ∧ w''.cell? ⟨w.heap.size, 6, none⟩ = some (.int .i64 h.br) ∧ w''.cell? ⟨w.heap.size, 7, none⟩ = some (.int .i64 h.dr) ∧ w''.cell? ⟨w.heap.size, 8, none⟩ = some (.int .i64 h.lv) ∧ w''.cell? ⟨w.heap.size, 9, none⟩ = some (.int .i64 h.dO) ∧ w''.cell? ⟨w.heap.size, 10, none⟩ = some (.int .i64 h.ld) ∧ w''.cell? ⟨w.heap.size, 11, none⟩ = some (.int .i64 h.qu))) (by kernel_rfl) (by (try dsimp only); first | exact ⟨x0_0, x0_1, x0_2, x0_3, x0_4, x0_5, x0_6, x0_7, x0_8, x0_9, x0_10, x0_11⟩ | go_keep) (fun hHeld => ?_)
        obtain ⟨v_1, hw1⟩ : ∃ v_1, v_1 = wr.drew := ⟨_, rfl⟩
        have F0 : Hid (HAt v_1 w.heap.size h) := by rw [hw1]; exact F0.out
        have F2 : Hid (MW v_1 (w.heap.size + 2) (⟨0, 0⟩ : Sp)) := by rw [hw1]; exact F2.out
        have F3 : Hid (MW v_1 ob (⟨Hs.covLo h lw (z + 1).toNat, h.fl⟩ : Sp)) := by rw [hw1]; exact F3.out
        have FB : Hid (Below w.heap.size w v_1) := by rw [hw1]; exact FB.out
        rw [← hw1] at hHeld ⊢
        clear hw1
        obtain ⟨x0_0, x0_1, x0_2, x0_3, x0_4, x0_5, x0_6, x0_7, x0_8, x0_9, x0_10, x0_11⟩ := F0.out
        refine tkz 0 rfl ?_
        refine tkz 1 rfl ?_
        refine tkz 3 rfl ?_
        refine tkz 4 rfl ?_
        refine tkz 6 rfl ?_
        refine wpAnyH_ready (rs := [2]) (by kernel_rfl) (by simp) ?_
        refine (AllReadyH.cons rfl (fun K hK => ?_) AllReadyH.nil)
        go_simp
        refine (specLevel_below h HO.out z (by omega) (by omega) _).mono ?_
        rintro e v_2 ⟨rfl, hb⟩
        have F0 : Hid (HAt v_2 w.heap.size h) := F0.out.below hb F0.out.lt
        have F2 : Hid (MW v_2 (w.heap.size + 2) (⟨0, 0⟩ : Sp)) := F2.out.below hb F2.out.lt
        have F3 : Hid (MW v_2 ob (⟨Hs.covLo h lw (z + 1).toNat, h.fl⟩ : Sp)) := F3.out.below hb F3.out.lt
        have FB : Hid (Below w.heap.size w v_2) := FB.out.trans (hb.mono FB.out.size)
        clear hb
        obtain ⟨x0_0, x0_1, x0_2, x0_3, x0_4, x0_5, x0_6, x0_7, x0_8, x0_9, x0_10, x0_11⟩ := F0.out
        try dsimp only
        refine hK.out _ _ (by (try dsimp only); first | exact ⟨x0_0, x0_1, x0_2, x0_3, x0_4, x0_5, x0_6, x0_7, x0_8, x0_9, x0_10, x0_11⟩ | go_keep) (fun hHeld => ?_)
        clear hK K
        try simp only [Act.put, List.getElem_toArray, List.getElem_cons_succ, List.getElem_cons_zero, List.setIfInBounds_toArray, List.set_cons_zero, List.set_cons_succ]
        refine tkz 5 rfl ?_
        refine tkz 7 rfl ?_
        refine wpAnyH_done (by kernel_rfl) ?_ _
        obtain ⟨r0, r1, r2, r3⟩ := F3.out
        try dsimp only at r0 r1
        go_wp2_with fail
        go_roundw
        case rel => exact ⟨z + 1, rfl, by omega, by omega, F0.out.below ((Below.refl _ _).setCell (Nat.le_refl _) _) (by omega), F2.out.other (by omega), by rw [covLo_yes n1 HD.out]; exact F3.out.set0 z, FB.out.setCell (by omega) _⟩
        case measure => simp [intOf]; omega
      · have hd' : decide (h.level z - h.lv ≤ lw) = false := decide_eq_false hd
        have HD : Hid (¬ h.level z - h.lv ≤ lw) := hd
        clear hd
        have F0 : Hid (HAt wr.drew w.heap.size h) := F0.out.below (Below.refl _ _).drew F0.out.lt
        have F2 : Hid (MW wr.drew (w.heap.size + 2) (⟨0, 0⟩ : Sp)) := F2.out.below (Below.refl _ _).drew F2.out.lt
        have F3 : Hid (MW wr.drew ob (⟨Hs.covLo h lw (z + 1).toNat, h.fl⟩ : Sp)) := F3.out.below (Below.refl _ _).drew F3.out.lt
        have FB : Hid (Below w.heap.size w wr.drew) := FB.out.drew
        obtain ⟨x0_0, x0_1, x0_2, x0_3, x0_4, x0_5, x0_6, x0_7, x0_8, x0_9, x0_10, x0_11⟩ := F0.out
        refine wp_region_held_drew (S := (fun w'' => w''.cell? ⟨w.heap.size, 0, none⟩ = some (.int .i64 h.fl) ∧ w''.cell? ⟨w.heap.size, 1, none⟩ = some (.int .i64 h.gp) ∧ w''.cell? ⟨w.heap.size, 2, none⟩ = some (.int .i64 h.ln) ∧ w''.cell? ⟨w.heap.size, 3, none⟩ = some (.int .i64 h.rf) ∧ w''.cell? ⟨w.heap.size, 4, none⟩ = some (.int .i64 h.sp) ∧ w''.cell? ⟨w.heap.size, 5, none⟩ = some (.int .i64 h.pu) ∧ w''.cell? ⟨w.heap.size, 6, none⟩ = some (.int .i64 h.br) ∧ w''.cell? ⟨w.heap.size, 7, none⟩ = some (.int .i64 h.dr) ∧ w''.cell? ⟨w.heap.size, 8, none⟩ = some (.int .i64 h.lv) ∧ w''.cell? ⟨w.heap.size, 9, none⟩ = some (.int .i64 h.dO) ∧ w''.cell? ⟨w.heap.size, 10, none⟩ = some (.int .i64 h.ld) ∧ w''.cell? ⟨w.heap.size, 11, none⟩ = some (.int .i64 h.qu))) (by kernel_rfl) (by (try dsimp only); first | exact ⟨x0_0, x0_1, x0_2, x0_3, x0_4, x0_5, x0_6, x0_7, x0_8, x0_9, x0_10, x0_11⟩ | go_keep) (fun hHeld => ?_)
        obtain ⟨v_3, hw1⟩ : ∃ v_3, v_3 = wr.drew := ⟨_, rfl⟩
        have F0 : Hid (HAt v_3 w.heap.size h) := by rw [hw1]; exact F0.out
        have F2 : Hid (MW v_3 (w.heap.size + 2) (⟨0, 0⟩ : Sp)) := by rw [hw1]; exact F2.out
        have F3 : Hid (MW v_3 ob (⟨Hs.covLo h lw (z + 1).toNat, h.fl⟩ : Sp)) := by rw [hw1]; exact F3.out
        have FB : Hid (Below w.heap.size w v_3) := by rw [hw1]; exact FB.out
        rw [← hw1] at hHeld ⊢
        clear hw1
        obtain ⟨x0_0, x0_1, x0_2, x0_3, x0_4, x0_5, x0_6, x0_7, x0_8, x0_9, x0_10, x0_11⟩ := F0.out
        refine tkz 0 rfl ?_
        refine tkz 1 rfl ?_
        refine tkz 3 rfl ?_
        refine tkz 4 rfl ?_
        refine tkz 6 rfl ?_
        refine wpAnyH_ready (rs := [2]) (by kernel_rfl) (by simp) ?_
        refine (AllReadyH.cons rfl (fun K hK => ?_) AllReadyH.nil)
        go_simp
        refine (specLevel_below h HO.out z (by omega) (by omega) _).mono ?_
        rintro e v_4 ⟨rfl, hb⟩
        have F0 : Hid (HAt v_4 w.heap.size h) := F0.out.below hb F0.out.lt
        have F2 : Hid (MW v_4 (w.heap.size + 2) (⟨0, 0⟩ : Sp)) := F2.out.below hb F2.out.lt
        have F3 : Hid (MW v_4 ob (⟨Hs.covLo h lw (z + 1).toNat, h.fl⟩ : Sp)) := F3.out.below hb F3.out.lt
        have FB : Hid (Below w.heap.size w v_4) := FB.out.trans (hb.mono FB.out.size)
        clear hb
        obtain ⟨x0_0, x0_1, x0_2, x0_3, x0_4, x0_5, x0_6, x0_7, x0_8, x0_9, x0_10, x0_11⟩ := F0.out
        try dsimp only
        refine hK.out _ _ (by (try dsimp only); first | exact ⟨x0_0, x0_1, x0_2, x0_3, x0_4, x0_5, x0_6, x0_7, x0_8, x0_9, x0_10, x0_11⟩ | go_keep) (fun hHeld => ?_)
        clear hK K
        try simp only [Act.put, List.getElem_toArray, List.getElem_cons_succ, List.getElem_cons_zero, List.setIfInBounds_toArray, List.set_cons_zero, List.set_cons_succ]
        refine tkz 5 rfl ?_
        refine tkz 7 rfl ?_
        refine wpAnyH_done (by kernel_rfl) ?_ _
        go_wp2_with fail
        go_roundw
        case rel => exact ⟨z + 1, rfl, by omega, by omega, F0.out, F2.out, by rw [covLo_no n1 HD.out]; exact F3.out, FB.out⟩
        case measure => simp [intOf]; omega
    · have ez : z = h.fl + 1 := by omega
      subst ez
      obtain ⟨L, hL⟩ : ∃ L, Hs.covLo h lw (h.fl + 1 + 1).toNat = L := ⟨_, rfl⟩
      have HL : Hid (Hs.covLo h lw (h.fl + 1 + 1).toNat = L) := hL
      have F3 : Hid (MW wr ob (⟨L, h.fl⟩ : Sp)) := hL ▸ F3.out
      clear hL z0 z1 z2 z3 hlt n1 n2
      go_wp2_with fail
      go_loopw [9] (fun nn wr => ∃ z : Int, nn = .int .i64 z ∧ -2 ≤ z ∧ z ≤ h.fl ∧ HAt wr w.heap.size h ∧ MW wr (w.heap.size + 2) (⟨0, 0⟩ : Sp) ∧ MW wr ob (⟨L, Hs.covHi h hg_ (h.fl - z).toNat⟩ : Sp) ∧ Below w.heap.size w wr) (fun nn _ => (intOf nn + 2).toNat)
      case atStart => exact ⟨h.fl, rfl, by omega, by omega, F0.out, F2.out, by rw [Int.sub_self]; exact F3.out, FB.out⟩
      case round =>
        obtain ⟨z, rfl, n1, n2, h0, h2, h3, h4⟩ := hrel
        have F0 : Hid (HAt wr w.heap.size h) := h0
        have F2 : Hid (MW wr (w.heap.size + 2) (⟨0, 0⟩ : Sp)) := h2
        have F3 : Hid (MW wr ob (⟨L, Hs.covHi h hg_ (h.fl - z).toNat⟩ : Sp)) := h3
        have FB : Hid (Below w.heap.size w wr) := h4
        clear h0 h2 h3 h4
        obtain ⟨x0_0, x0_1, x0_2, x0_3, x0_4, x0_5, x0_6, x0_7, x0_8, x0_9, x0_10, x0_11⟩ := F0.out
        obtain ⟨z0, z1, z2, z3⟩ := F3.out
        by_cases hge : -1 ≤ z
        · obtain ⟨b1, b2⟩ := HO.out.level_bd z (by omega) (by omega)
          have ew : IntKind.i64.wrap (h.level z + h.lv) = h.level z + h.lv := IntWalk.i64_in _ (by omega)
          go_wp2_with fail
          clear z0 z1 z2 z3
          by_cases hd : hg_ ≤ h.level z + h.lv
          · have hd' : decide (hg_ ≤ h.level z + h.lv) = true := decide_eq_true hd
            have HD : Hid (hg_ ≤ h.level z + h.lv) := hd
            clear hd
            have F0 : Hid (HAt wr.drew w.heap.size h) := F0.out.below (Below.refl _ _).drew F0.out.lt
            have F2 : Hid (MW wr.drew (w.heap.size + 2) (⟨0, 0⟩ : Sp)) := F2.out.below (Below.refl _ _).drew F2.out.lt
            have F3 : Hid (MW wr.drew ob (⟨L, Hs.covHi h hg_ (h.fl - z).toNat⟩ : Sp)) := F3.out.below (Below.refl _ _).drew F3.out.lt
            have FB : Hid (Below w.heap.size w wr.drew) := FB.out.drew
            obtain ⟨x0_0, x0_1, x0_2, x0_3, x0_4, x0_5, x0_6, x0_7, x0_8, x0_9, x0_10, x0_11⟩ := F0.out
            refine wp_region_held_drew (S := (fun w'' => w''.cell? ⟨w.heap.size, 0, none⟩ = some (.int .i64 h.fl) ∧ w''.cell? ⟨w.heap.size, 1, none⟩ = some (.int .i64 h.gp) ∧ w''.cell? ⟨w.heap.size, 2, none⟩ = some (.int .i64 h.ln) ∧ w''.cell? ⟨w.heap.size, 3, none⟩ = some (.int .i64 h.rf) ∧ w''.cell? ⟨w.heap.size, 4, none⟩ = some (.int .i64 h.sp) ∧ w''.cell? ⟨w.heap.size, 5, none⟩ = some (.int .i64 h.pu) ∧ w''.cell? ⟨w.heap.size, 6, none⟩ = some (.int .i64 h.br) ∧ w''.cell? ⟨w.heap.size, 7, none⟩ = some (.int .i64 h.dr) ∧ w''.cell? ⟨w.heap.size, 8, none⟩ = some (.int .i64 h.lv) ∧ w''.cell? ⟨w.heap.size, 9, none⟩ = some (.int .i64 h.dO) ∧ w''.cell? ⟨w.heap.size, 10, none⟩ = some (.int .i64 h.ld) ∧ w''.cell? ⟨w.heap.size, 11, none⟩ = some (.int .i64 h.qu))) (by kernel_rfl) (by (try dsimp only); first | exact ⟨x0_0, x0_1, x0_2, x0_3, x0_4, x0_5, x0_6, x0_7, x0_8, x0_9, x0_10, x0_11⟩ | go_keep) (fun hHeld => ?_)
            obtain ⟨v_5, hw1⟩ : ∃ v_5, v_5 = wr.drew := ⟨_, rfl⟩
            have F0 : Hid (HAt v_5 w.heap.size h) := by rw [hw1]; exact F0.out
            have F2 : Hid (MW v_5 (w.heap.size + 2) (⟨0, 0⟩ : Sp)) := by rw [hw1]; exact F2.out
            have F3 : Hid (MW v_5 ob (⟨L, Hs.covHi h hg_ (h.fl - z).toNat⟩ : Sp)) := by rw [hw1]; exact F3.out
            have FB : Hid (Below w.heap.size w v_5) := by rw [hw1]; exact FB.out
            rw [← hw1] at hHeld ⊢
            clear hw1
            obtain ⟨x0_0, x0_1, x0_2, x0_3, x0_4, x0_5, x0_6, x0_7, x0_8, x0_9, x0_10, x0_11⟩ := F0.out
            refine tkz 0 rfl ?_
            refine tkz 1 rfl ?_
            refine tkz 3 rfl ?_
            refine tkz 4 rfl ?_
            refine tkz 6 rfl ?_
            refine wpAnyH_ready (rs := [2]) (by kernel_rfl) (by simp) ?_
            refine (AllReadyH.cons rfl (fun K hK => ?_) AllReadyH.nil)
            go_simp
            refine (specLevel_below h HO.out z (by omega) (by omega) _).mono ?_
            rintro e v_6 ⟨rfl, hb⟩
            have F0 : Hid (HAt v_6 w.heap.size h) := F0.out.below hb F0.out.lt
            have F2 : Hid (MW v_6 (w.heap.size + 2) (⟨0, 0⟩ : Sp)) := F2.out.below hb F2.out.lt
            have F3 : Hid (MW v_6 ob (⟨L, Hs.covHi h hg_ (h.fl - z).toNat⟩ : Sp)) := F3.out.below hb F3.out.lt
            have FB : Hid (Below w.heap.size w v_6) := FB.out.trans (hb.mono FB.out.size)
            clear hb
            obtain ⟨x0_0, x0_1, x0_2, x0_3, x0_4, x0_5, x0_6, x0_7, x0_8, x0_9, x0_10, x0_11⟩ := F0.out
            try dsimp only
            refine hK.out _ _ (by (try dsimp only); first | exact ⟨x0_0, x0_1, x0_2, x0_3, x0_4, x0_5, x0_6, x0_7, x0_8, x0_9, x0_10, x0_11⟩ | go_keep) (fun hHeld => ?_)
            clear hK K
            try simp only [Act.put, List.getElem_toArray, List.getElem_cons_succ, List.getElem_cons_zero, List.setIfInBounds_toArray, List.set_cons_zero, List.set_cons_succ]
            refine tkz 5 rfl ?_
            refine tkz 7 rfl ?_
            refine wpAnyH_done (by kernel_rfl) ?_ _
            obtain ⟨r0, r1, r2, r3⟩ := F3.out
            try dsimp only at r0 r1
            go_wp2_with fail
            go_roundw
            case rel => exact ⟨z - 1, rfl, by omega, by omega, F0.out.below ((Below.refl _ _).setCell (Nat.le_refl _) _) (by omega), F2.out.other (by omega), by rw [covHi_yes n2 HD.out]; exact F3.out.set1 z, FB.out.setCell (by omega) _⟩
            case measure => simp [intOf]; omega
          · have hd' : decide (hg_ ≤ h.level z + h.lv) = false := decide_eq_false hd
            have HD : Hid (¬ hg_ ≤ h.level z + h.lv) := hd
            clear hd
            have F0 : Hid (HAt wr.drew w.heap.size h) := F0.out.below (Below.refl _ _).drew F0.out.lt
            have F2 : Hid (MW wr.drew (w.heap.size + 2) (⟨0, 0⟩ : Sp)) := F2.out.below (Below.refl _ _).drew F2.out.lt
            have F3 : Hid (MW wr.drew ob (⟨L, Hs.covHi h hg_ (h.fl - z).toNat⟩ : Sp)) := F3.out.below (Below.refl _ _).drew F3.out.lt
            have FB : Hid (Below w.heap.size w wr.drew) := FB.out.drew
            obtain ⟨x0_0, x0_1, x0_2, x0_3, x0_4, x0_5, x0_6, x0_7, x0_8, x0_9, x0_10, x0_11⟩ := F0.out
            refine wp_region_held_drew (S := (fun w'' => w''.cell? ⟨w.heap.size, 0, none⟩ = some (.int .i64 h.fl) ∧ w''.cell? ⟨w.heap.size, 1, none⟩ = some (.int .i64 h.gp) ∧ w''.cell? ⟨w.heap.size, 2, none⟩ = some (.int .i64 h.ln) ∧ w''.cell? ⟨w.heap.size, 3, none⟩ = some (.int .i64 h.rf) ∧ w''.cell? ⟨w.heap.size, 4, none⟩ = some (.int .i64 h.sp) ∧ w''.cell? ⟨w.heap.size, 5, none⟩ = some (.int .i64 h.pu) ∧ w''.cell? ⟨w.heap.size, 6, none⟩ = some (.int .i64 h.br) ∧ w''.cell? ⟨w.heap.size, 7, none⟩ = some (.int .i64 h.dr) ∧ w''.cell? ⟨w.heap.size, 8, none⟩ = some (.int .i64 h.lv) ∧ w''.cell? ⟨w.heap.size, 9, none⟩ = some (.int .i64 h.dO) ∧ w''.cell? ⟨w.heap.size, 10, none⟩ = some (.int .i64 h.ld) ∧ w''.cell? ⟨w.heap.size, 11, none⟩ = some (.int .i64 h.qu))) (by kernel_rfl) (by (try dsimp only); first | exact ⟨x0_0, x0_1, x0_2, x0_3, x0_4, x0_5, x0_6, x0_7, x0_8, x0_9, x0_10, x0_11⟩ | go_keep) (fun hHeld => ?_)
            obtain ⟨v_7, hw1⟩ : ∃ v_7, v_7 = wr.drew := ⟨_, rfl⟩
            have F0 : Hid (HAt v_7 w.heap.size h) := by rw [hw1]; exact F0.out
            have F2 : Hid (MW v_7 (w.heap.size + 2) (⟨0, 0⟩ : Sp)) := by rw [hw1]; exact F2.out
            have F3 : Hid (MW v_7 ob (⟨L, Hs.covHi h hg_ (h.fl - z).toNat⟩ : Sp)) := by rw [hw1]; exact F3.out
            have FB : Hid (Below w.heap.size w v_7) := by rw [hw1]; exact FB.out
            rw [← hw1] at hHeld ⊢
            clear hw1
            obtain ⟨x0_0, x0_1, x0_2, x0_3, x0_4, x0_5, x0_6, x0_7, x0_8, x0_9, x0_10, x0_11⟩ := F0.out
            refine tkz 0 rfl ?_
            refine tkz 1 rfl ?_
            refine tkz 3 rfl ?_
            refine tkz 4 rfl ?_
            refine tkz 6 rfl ?_
            refine wpAnyH_ready (rs := [2]) (by kernel_rfl) (by simp) ?_
            refine (AllReadyH.cons rfl (fun K hK => ?_) AllReadyH.nil)
            go_simp
            refine (specLevel_below h HO.out z (by omega) (by omega) _).mono ?_
            rintro e v_8 ⟨rfl, hb⟩
            have F0 : Hid (HAt v_8 w.heap.size h) := F0.out.below hb F0.out.lt
            have F2 : Hid (MW v_8 (w.heap.size + 2) (⟨0, 0⟩ : Sp)) := F2.out.below hb F2.out.lt
            have F3 : Hid (MW v_8 ob (⟨L, Hs.covHi h hg_ (h.fl - z).toNat⟩ : Sp)) := F3.out.below hb F3.out.lt
            have FB : Hid (Below w.heap.size w v_8) := FB.out.trans (hb.mono FB.out.size)
            clear hb
            obtain ⟨x0_0, x0_1, x0_2, x0_3, x0_4, x0_5, x0_6, x0_7, x0_8, x0_9, x0_10, x0_11⟩ := F0.out
            try dsimp only
            refine hK.out _ _ (by (try dsimp only); first | exact ⟨x0_0, x0_1, x0_2, x0_3, x0_4, x0_5, x0_6, x0_7, x0_8, x0_9, x0_10, x0_11⟩ | go_keep) (fun hHeld => ?_)
            clear hK K
            try simp only [Act.put, List.getElem_toArray, List.getElem_cons_succ, List.getElem_cons_zero, List.setIfInBounds_toArray, List.set_cons_zero, List.set_cons_succ]
            refine tkz 5 rfl ?_
            refine tkz 7 rfl ?_
            refine wpAnyH_done (by kernel_rfl) ?_ _
            go_wp2_with fail
            go_roundw
            case rel => exact ⟨z - 1, rfl, by omega, by omega, F0.out, F2.out, by rw [covHi_no n2 HD.out]; exact F3.out, FB.out⟩
            case measure => simp [intOf]; omega
        · have ez : z = -2 := by omega
          subst ez
          have eq : (⟨L, Hs.covHi h hg_ (h.fl - -2).toNat⟩ : Sp) = g := by
            have e2 : h.fl + 2 = h.fl + 1 + 1 := by omega
            have e3 : h.fl - -2 = h.fl + 1 + 1 := by omega
            rw [← HGv.out, e2, HL.out, e3]
          clear z0 z1 z2 z3
          have F3 : Hid (MW wr ob g) := eq ▸ F3.out
          obtain ⟨z0, z1, z2, z3⟩ := F3.out
          clear eq
          obtain ⟨q0, q1, q2, q3⟩ := F2.out
          try dsimp only at q0 q1
          clear HL HGv HO
          go_wp2_with fail
          change bodyPost _ _ _ _ _ (putM wr (w.heap.size + 2) g)
          obtain ⟨Wf, hWf⟩ : ∃ Wf, putM wr (w.heap.size + 2) g = Wf := ⟨_, rfl⟩
          have HRf : MW Wf (w.heap.size + 2) g := hWf ▸ F2.out.put _
          have HBf : Below w.heap.size w Wf := hWf ▸ below_putM FB.out (by omega) _
          rw [hWf]
          clear hWf
          obtain ⟨d0, d1, -, -⟩ := HRf
          try dsimp only at d0 d1
          exact bodyPost_ret (v := .agg #[.int .i64 g.lo, .int .i64 g.hi]) (by simp [results, Try.results68, go_sem, d0, d1]) rfl ⟨rfl, HBf⟩
def Hs.covV (h : Hs) (c : Cs) : Ss := if h.car c = 0 then ⟨Hs.cover h c, ⟨0, 0⟩⟩ else ⟨⟨0, 0⟩, ⟨0, 0⟩⟩
end Go.Proofs.Ytpfihpplpefikaa
