/-
  The model's group: is it quiet, and the bound.
-/
import Derived.Test.YtehdgifinanbbaaGfS
import Derived.Test.YtehdgifinanbbaaPersAo
import Derived.Test.YtehdgifinanbbaaQuP
import Derived.BigGuardPart
namespace Go.Proofs.Ytehdgifinanbbaa
open Go.RowKit Pl
set_option linter.unusedSimpArgs false
set_option linter.unusedVariables false

set_option maxRecDepth 20000 in
set_option maxHeartbeats 32000000 in
theorem l8Quiet_any (gb : Nat) (h : Hs) (ds : List Dk) (da : Option Addr) (dc : Nat) (nx : Int) (ps : List Pe) (pa : Option Addr) (pc : Nat) (tk : Int) (rc : Bool) (hld : ds.length ≤ 1048576) (hlp : ps.length ≤ 1048576) (w : World) (hG : Blk w gb (gvs h (.slice da ds.length dc) nx (.slice pa ps.length pc) tk rc)) (hD : DIn w w.heap.size da ds) (hP : PIn w w.heap.size pa ps) :
    Calls Try.prog 58 #[.pointer (some ⟨gb, 0, none⟩)] w fun e w' => e = .returned (.bool (quietB ds ps)) ∧ Below w.heap.size w w' := by
  have HD : Hid (DIn w w.heap.size da ds) := hD
  have HP : Hid (PIn w w.heap.size pa ps) := hP
  have FG : Hid (Blk w gb (gvs h (.slice da ds.length dc) nx (.slice pa ps.length pc) tk rc)) := hG
  have FB : Hid (Below w.heap.size w w) := Below.refl _ _
  clear hG hD hP
  obtain ⟨r, hr⟩ : ∃ r, quietB ds ps = r := ⟨_, rfl⟩
  rw [hr]
  have HR : Hid (quietB ds ps = r) := hr
  clear hr
  go_enter Try.func58, Try.ntmps58
  go_wp2_with fail
  go_loopw [3] (fun ii wr => ∃ i : Nat, ii = .int .i64 i ∧ i ≤ ds.length ∧ (∀ (j : Nat) d, j < i → ds[j]? = some d → doorB d = true) ∧ Blk wr gb (gvs h (.slice da ds.length dc) nx (.slice pa ps.length pc) tk rc) ∧ Below w.heap.size w wr) (fun ii _ => ds.length - (intOf ii).toNat)
  case atStart => exact ⟨0, rfl, by omega, fun j q hj => absurd hj (by omega), FG.out, FB.out⟩
  case round =>
    obtain ⟨i, rfl, hi, hok, h0, h1⟩ := hrel
    have HOK : Hid (∀ (j : Nat) d, j < i → ds[j]? = some d → doorB d = true) := hok
    have FG : Hid (Blk wr gb (gvs h (.slice da ds.length dc) nx (.slice pa ps.length pc) tk rc)) := h0
    have FB : Hid (Below w.heap.size w wr) := h1
    clear hok h0 h1
    have x12 := FG.out.c 12 _ rfl
    by_cases hlt : i < ds.length
    · obtain ⟨d, hd⟩ : ∃ d, ds[i]? = some d := ⟨_, List.getElem?_eq_getElem hlt⟩
      rcases HD.out with hz | ⟨b, o, ha, hbl, h13⟩
      · rw [hz] at hlt; simp at hlt
      subst ha
      obtain ⟨c0, c1, c2, c3, c4, c5, c6, c7, c8, c9, c10, c11, c12⟩ := (h13 i d hd).below FB.out hbl
      have HQ : Hid (doorB d = false → false = r) := fun z => by rw [← HR.out]; exact (quiet_door hd z).symm
      have HN : Hid (doorB d = true → ∀ (j : Nat) e, j < i + 1 → ds[j]? = some e → doorB e = true) := by
        intro z j e hj he
        by_cases ej : j = i
        · subst ej
          rw [hd] at he
          cases he
          exact z
        · exact HOK.out j e (by omega) he
      clear h13 hd HOK
      cases a1 : (d.sh.lo.door != 0) <;> cases a2 : (d.sh.up.door != 0)
      · have HM : Hid (∀ (j : Nat) e, j < i + 1 → ds[j]? = some e → doorB e = true) := HN.out (by unfold doorB; simp_all)
        go_wp2_with fail
        go_roundw
        case rel => exact ⟨i + 1, by simp, by omega, HM.out, FG.out, FB.out⟩
        case measure => simp [intOf]; omega
      all_goals
        have HZ : Hid (false = r) := HQ.out (by unfold doorB; simp_all)
        go_wp2_with fail
        go_ret
        exact ⟨ret_bool HZ.out, FB.out⟩
    · have ei : i = ds.length := by omega
      subst ei
      have HZ : Hid (decide (used ps = 0) = r) := by rw [← HR.out]; exact (quiet_all HOK.out).symm
      have ub := used_bd ps
      unfold used at ub
      have ew : IntKind.i64.wrap ((cnt 0 (-1) 0 ps : Int) + (cnt 1 (-1) 0 ps : Int)) = (cnt 0 (-1) 0 ps : Int) + (cnt 1 (-1) 0 ps : Int) := IntWalk.i64_in _ (by omega)
      clear HOK hlt hi ub
      go_wp2_with fail
      have FG : Hid (Blk wr.drew gb (gvs h (.slice da ds.length dc) nx (.slice pa ps.length pc) tk rc)) := FG.out.below (Below.refl _ _).drew FG.out.lt
      have FB : Hid (Below w.heap.size w wr.drew) := FB.out.drew
      have m14 := FG.out.c 14 _ rfl
      refine wp_region_held_drew (S := (fun w'' => w''.cell? ⟨gb, 14, none⟩ = some (.slice pa ps.length pc))) (by kernel_rfl) (by (try dsimp only); first | exact ⟨m14⟩ | go_keep) (fun hHeld => ?_)
      obtain ⟨v_1, hw1⟩ : ∃ v_1, v_1 = wr.drew := ⟨_, rfl⟩
      have FG : Hid (Blk v_1 gb (gvs h (.slice da ds.length dc) nx (.slice pa ps.length pc) tk rc)) := by rw [hw1]; exact FG.out
      have FB : Hid (Below w.heap.size w v_1) := by rw [hw1]; exact FB.out
      rw [← hw1] at hHeld ⊢
      clear hw1
      have m14 := FG.out.c 14 _ rfl
      refine wpAnyH_take (i := 0) (v := _) rfl (by kernel_rfl) (by kernel_rfl) (by kernel_rfl) (fun _ _ _ h => h) (Or.inl ⟨by kernel_rfl, by (intro wx hSw; (try dsimp only at hSw); go_simp <;> with_reducible rfl)⟩) (by assumption) ?_
      try simp only [Act.put, List.getElem_toArray, List.getElem_cons_succ, List.getElem_cons_zero, List.setIfInBounds_toArray, List.set_cons_zero, List.set_cons_succ]
      refine wpAnyH_take (i := 1) (v := _) rfl (by kernel_rfl) (by kernel_rfl) (by kernel_rfl) (fun _ _ _ h => h) (Or.inl ⟨by kernel_rfl, by (intro wx hSw; (try dsimp only at hSw); go_simp <;> with_reducible rfl)⟩) (by assumption) ?_
      try simp only [Act.put, List.getElem_toArray, List.getElem_cons_succ, List.getElem_cons_zero, List.setIfInBounds_toArray, List.set_cons_zero, List.set_cons_succ]
      refine wpAnyH_take (i := 2) (v := _) rfl (by kernel_rfl) (by kernel_rfl) (by kernel_rfl) (fun _ _ _ h => h) (Or.inl ⟨by kernel_rfl, by (intro wx hSw; (try dsimp only at hSw); go_simp <;> with_reducible rfl)⟩) (by assumption) ?_
      try simp only [Act.put, List.getElem_toArray, List.getElem_cons_succ, List.getElem_cons_zero, List.setIfInBounds_toArray, List.set_cons_zero, List.set_cons_succ]
      refine wpAnyH_take (i := 4) (v := _) rfl (by kernel_rfl) (by kernel_rfl) (by kernel_rfl) (fun _ _ _ h => h) (Or.inl ⟨by kernel_rfl, by (intro wx hSw; (try dsimp only at hSw); go_simp <;> with_reducible rfl)⟩) (by assumption) ?_
      try simp only [Act.put, List.getElem_toArray, List.getElem_cons_succ, List.getElem_cons_zero, List.setIfInBounds_toArray, List.set_cons_zero, List.set_cons_succ]
      refine wpAnyH_take (i := 5) (v := _) rfl (by kernel_rfl) (by kernel_rfl) (by kernel_rfl) (fun _ _ _ h => h) (Or.inl ⟨by kernel_rfl, by (intro wx hSw; (try dsimp only at hSw); go_simp <;> with_reducible rfl)⟩) (by assumption) ?_
      try simp only [Act.put, List.getElem_toArray, List.getElem_cons_succ, List.getElem_cons_zero, List.setIfInBounds_toArray, List.set_cons_zero, List.set_cons_succ]
      refine wpAnyH_take (i := 6) (v := _) rfl (by kernel_rfl) (by kernel_rfl) (by kernel_rfl) (fun _ _ _ h => h) (Or.inl ⟨by kernel_rfl, by (intro wx hSw; (try dsimp only at hSw); go_simp <;> with_reducible rfl)⟩) (by assumption) ?_
      try simp only [Act.put, List.getElem_toArray, List.getElem_cons_succ, List.getElem_cons_zero, List.setIfInBounds_toArray, List.set_cons_zero, List.set_cons_succ]
      refine wpAnyH_ready (rs := [3]) (by kernel_rfl) (by simp) ?_
      refine (AllReadyH.cons rfl (fun K hK => ?_) AllReadyH.nil)
      go_simp
      refine (l7Count_anyO gb 13 nx pa pc ps _ (-1) 0 hlp _ ⟨FG.out.c 13 _ rfl, FG.out.c 14 _ rfl⟩ ((HP.out.below FB.out (Nat.le_refl _)).mono FB.out.size)).mono ?_
      rintro e v_2 ⟨rfl, hb⟩
      have FG : Hid (Blk v_2 gb (gvs h (.slice da ds.length dc) nx (.slice pa ps.length pc) tk rc)) := FG.out.below hb FG.out.lt
      have FB : Hid (Below w.heap.size w v_2) := FB.out.trans (hb.mono FB.out.size)
      clear hb
      have m14 := FG.out.c 14 _ rfl
      try dsimp only
      refine hK.out _ _ (by (try dsimp only); first | exact ⟨m14⟩ | go_keep) (fun hHeld => ?_)
      clear hK K
      try simp only [Act.put, List.getElem_toArray, List.getElem_cons_succ, List.getElem_cons_zero, List.setIfInBounds_toArray, List.set_cons_zero, List.set_cons_succ]
      refine wpAnyH_ready (rs := [7]) (by kernel_rfl) (by simp) ?_
      refine (AllReadyH.cons rfl (fun K hK => ?_) AllReadyH.nil)
      go_simp
      refine (l7Count_anyO gb 13 nx pa pc ps _ (-1) 0 hlp _ ⟨FG.out.c 13 _ rfl, FG.out.c 14 _ rfl⟩ ((HP.out.below FB.out (Nat.le_refl _)).mono FB.out.size)).mono ?_
      rintro e v_3 ⟨rfl, hb⟩
      have FG : Hid (Blk v_3 gb (gvs h (.slice da ds.length dc) nx (.slice pa ps.length pc) tk rc)) := FG.out.below hb FG.out.lt
      have FB : Hid (Below w.heap.size w v_3) := FB.out.trans (hb.mono FB.out.size)
      clear hb
      have m14 := FG.out.c 14 _ rfl
      try dsimp only
      refine hK.out _ _ (by (try dsimp only); first | exact ⟨m14⟩ | go_keep) (fun hHeld => ?_)
      clear hK K
      try simp only [Act.put, List.getElem_toArray, List.getElem_cons_succ, List.getElem_cons_zero, List.setIfInBounds_toArray, List.set_cons_zero, List.set_cons_succ]
      refine wpAnyH_take (i := 8) (v := _) rfl (by kernel_rfl) (by kernel_rfl) (by kernel_rfl) (fun _ _ _ h => h) (Or.inl ⟨by kernel_rfl, by (intro wx hSw; (try dsimp only at hSw); go_simp <;> with_reducible rfl)⟩) (by assumption) ?_
      try simp only [Act.put, List.getElem_toArray, List.getElem_cons_succ, List.getElem_cons_zero, List.setIfInBounds_toArray, List.set_cons_zero, List.set_cons_succ]
      refine wpAnyH_take (i := 9) (v := _) rfl (by kernel_rfl) (by kernel_rfl) (by kernel_rfl) (fun _ _ _ h => h) (Or.inl ⟨by kernel_rfl, by (intro wx hSw; (try dsimp only at hSw); go_simp <;> with_reducible rfl)⟩) (by assumption) ?_
      try simp only [Act.put, List.getElem_toArray, List.getElem_cons_succ, List.getElem_cons_zero, List.setIfInBounds_toArray, List.set_cons_zero, List.set_cons_succ]
      refine wpAnyH_take (i := 10) (v := _) rfl (by kernel_rfl) (by kernel_rfl) (by kernel_rfl) (fun _ _ _ h => h) (Or.inl ⟨by kernel_rfl, by (intro wx hSw; (try dsimp only at hSw); go_simp <;> with_reducible rfl)⟩) (by assumption) ?_
      try simp only [Act.put, List.getElem_toArray, List.getElem_cons_succ, List.getElem_cons_zero, List.setIfInBounds_toArray, List.set_cons_zero, List.set_cons_succ]
      refine wpAnyH_done (by kernel_rfl) ?_ _
      go_wp2_with fail
      go_ret
      exact ⟨ret_bool (by rw [← HZ.out]; unfold used; first | rfl | (simp; rfl)), FB.out⟩
set_option maxRecDepth 20000 in
set_option maxHeartbeats 32000000 in
theorem specQuietGroup_any (h : Hs) (ds : List Dk) (da : Option Addr) (dc : Nat) (nx : Int) (ps : List Pe) (pa : Option Addr) (pc : Nat) (tk : Int) (rc : Bool) (hld : ds.length ≤ 1048576) (hlp : ps.length ≤ 1048576) (w : World) (hD : DIn w w.heap.size da ds) (hP : PIn w w.heap.size pa ps) :
    Calls Try.prog 22 #[.agg #[.int .i64 h.fl, .int .i64 h.gp, .int .i64 h.ln, .int .i64 h.rf, .int .i64 h.sp, .int .i64 h.pu, .int .i64 h.br, .int .i64 h.dr, .int .i64 h.lv, .int .i64 h.dO, .int .i64 h.ld, .int .i64 h.qu, .slice da ds.length dc, .int .i64 nx, .slice pa ps.length pc, .int .i64 tk, .bool rc]] w fun e w' => e = .returned (.bool (Gr.quiet ⟨h, ds, ⟨nx, ps⟩, tk, rc⟩)) ∧ Below w.heap.size w w' := by
  have HD : Hid (DIn w w.heap.size da ds) := hD
  have HP : Hid (PIn w w.heap.size pa ps) := hP
  have F0 : Hid (Blk (w.alloc (.cells #[.int .i64 h.fl, .int .i64 h.gp, .int .i64 h.ln, .int .i64 h.rf, .int .i64 h.sp, .int .i64 h.pu, .int .i64 h.br, .int .i64 h.dr, .int .i64 h.lv, .int .i64 h.dO, .int .i64 h.ld, .int .i64 h.qu, .slice da ds.length dc, .int .i64 nx, .slice pa ps.length pc, .int .i64 tk, .bool rc] 38)) w.heap.size (gvs h (.slice da ds.length dc) nx (.slice pa ps.length pc) tk rc)) := Blk.at_ w #[.int .i64 h.fl, .int .i64 h.gp, .int .i64 h.ln, .int .i64 h.rf, .int .i64 h.sp, .int .i64 h.pu, .int .i64 h.br, .int .i64 h.dr, .int .i64 h.lv, .int .i64 h.dO, .int .i64 h.ld, .int .i64 h.qu, .slice da ds.length dc, .int .i64 nx, .slice pa ps.length pc, .int .i64 tk, .bool rc] _ _ rfl
  have FB : Hid (Below w.heap.size w (w.alloc (.cells #[.int .i64 h.fl, .int .i64 h.gp, .int .i64 h.ln, .int .i64 h.rf, .int .i64 h.sp, .int .i64 h.pu, .int .i64 h.br, .int .i64 h.dr, .int .i64 h.lv, .int .i64 h.dO, .int .i64 h.ld, .int .i64 h.qu, .slice da ds.length dc, .int .i64 nx, .slice pa ps.length pc, .int .i64 tk, .bool rc] 38))) := (Below.refl _ _).alloc (Nat.le_refl _) _
  obtain ⟨W0, hW0⟩ : ∃ W0, W0 = (w.alloc (.cells #[.int .i64 h.fl, .int .i64 h.gp, .int .i64 h.ln, .int .i64 h.rf, .int .i64 h.sp, .int .i64 h.pu, .int .i64 h.br, .int .i64 h.dr, .int .i64 h.lv, .int .i64 h.dO, .int .i64 h.ld, .int .i64 h.qu, .slice da ds.length dc, .int .i64 nx, .slice pa ps.length pc, .int .i64 tk, .bool rc] 38)) := ⟨_, rfl⟩
  rw [← hW0] at F0 FB
  have HW0 : Hid (W0 = (w.alloc (.cells #[.int .i64 h.fl, .int .i64 h.gp, .int .i64 h.ln, .int .i64 h.rf, .int .i64 h.sp, .int .i64 h.pu, .int .i64 h.br, .int .i64 h.dr, .int .i64 h.lv, .int .i64 h.dO, .int .i64 h.ld, .int .i64 h.qu, .slice da ds.length dc, .int .i64 nx, .slice pa ps.length pc, .int .i64 tk, .bool rc] 38))) := hW0
  clear hW0 hD hP
  unfold Gr.quiet
  dsimp only
  obtain ⟨f, hf⟩ : ∃ f, Gr.fault ⟨h, ds, ⟨nx, ps⟩, tk, rc⟩ = f := ⟨_, rfl⟩
  rw [hf]
  have HF : Hid (Gr.fault ⟨h, ds, ⟨nx, ps⟩, tk, rc⟩ = f) := hf
  clear hf
  by_cases k : f = 0
  · have e1 : (f == 0) = true := by simpa using k
    have e2 : (decide (f = 0) && quietB ds ps) = quietB ds ps := by simp [k]
    rw [e2]
    clear k e2
    go_enter Try.func22, Try.ntmps22
    go_upto_region 1 with fail
    rw [← HW0.out]
    go_wp2_with (first | (refine load_blk 38 _ Try.underlying38 (by kernel_rfl) F0.out rfl rfl rfl ?_) | (go_at_call 9; refine (specGroupFault_any h ds da dc nx ps pa pc tk rc hld hlp _ ((HD.out.below FB.out (Nat.le_refl _)).mono FB.out.size) ((HP.out.below FB.out (Nat.le_refl _)).mono FB.out.size)).mono ?_; rw [HF.out]; rintro e w1 ⟨rfl, hb⟩; have F0 : Hid (Blk w1 w.heap.size (gvs h (.slice da ds.length dc) nx (.slice pa ps.length pc) tk rc)) := F0.out.below hb F0.out.lt; have FB : Hid (Below w.heap.size w w1) := FB.out.trans (hb.mono FB.out.size); clear hb) | (go_at_call 58; refine (l8Quiet_any w.heap.size h ds da dc nx ps pa pc tk rc hld hlp _ F0.out ((HD.out.below FB.out (Nat.le_refl _)).mono FB.out.size) ((HP.out.below FB.out (Nat.le_refl _)).mono FB.out.size)).mono ?_; rintro e w1 ⟨rfl, hb⟩; have F0 : Hid (Blk w1 w.heap.size (gvs h (.slice da ds.length dc) nx (.slice pa ps.length pc) tk rc)) := F0.out.below hb F0.out.lt; have FB : Hid (Below w.heap.size w w1) := FB.out.trans (hb.mono FB.out.size); clear hb))
    go_ret
    exact ⟨rfl, FB.out⟩
  · have e1 : (f == 0) = false := by simpa using k
    have e2 : (decide (f = 0) && quietB ds ps) = false := by simp [k]
    rw [e2]
    clear k e2
    go_enter Try.func22, Try.ntmps22
    go_upto_region 1 with fail
    rw [← HW0.out]
    go_wp2_with (first | (refine load_blk 38 _ Try.underlying38 (by kernel_rfl) F0.out rfl rfl rfl ?_) | (go_at_call 9; refine (specGroupFault_any h ds da dc nx ps pa pc tk rc hld hlp _ ((HD.out.below FB.out (Nat.le_refl _)).mono FB.out.size) ((HP.out.below FB.out (Nat.le_refl _)).mono FB.out.size)).mono ?_; rw [HF.out]; rintro e w1 ⟨rfl, hb⟩; have F0 : Hid (Blk w1 w.heap.size (gvs h (.slice da ds.length dc) nx (.slice pa ps.length pc) tk rc)) := F0.out.below hb F0.out.lt; have FB : Hid (Below w.heap.size w w1) := FB.out.trans (hb.mono FB.out.size); clear hb))
    go_ret
    exact ⟨rfl, FB.out⟩
theorem led_st8 {h : Hs} {x : Lg} (hk : Hs.led h x = 0) : ∀ (i : Nat) (p : Pe), x.ps[i]? = some p → 0 ≤ p.st ∧ p.st ≤ 4 := fun i p hp => (inP_parts (persC_iff.1 (pers_iff.1 ((led_zero_iff.1 hk).ps i p hp)).2.2).2.1).2.2.1
theorem serve_bd {h : Hs} (o : h.Ok) : 0 ≤ h.serve ∧ h.serve ≤ 100000000 := by
  obtain ⟨r1, r2⟩ := o.run_bd
  have d1 := o.do1; have d2 := o.do2
  unfold Hs.serve
  omega
set_option maxRecDepth 20000 in
set_option maxHeartbeats 32000000 in
theorem specBoundOf_any (h : Hs) (ds : List Dk) (da : Option Addr) (dc : Nat) (nx : Int) (ps : List Pe) (pa : Option Addr) (pc : Nat) (tk : Int) (rc : Bool) (hld : ds.length ≤ 1048576) (hlp : ps.length ≤ 1048576) (w : World) (hD : DIn w w.heap.size da ds) (hP : PIn w w.heap.size pa ps) :
    Calls Try.prog 24 #[.agg #[.int .i64 h.fl, .int .i64 h.gp, .int .i64 h.ln, .int .i64 h.rf, .int .i64 h.sp, .int .i64 h.pu, .int .i64 h.br, .int .i64 h.dr, .int .i64 h.lv, .int .i64 h.dO, .int .i64 h.ld, .int .i64 h.qu, .slice da ds.length dc, .int .i64 nx, .slice pa ps.length pc, .int .i64 tk, .bool rc]] w fun e w' => e = .returned (.agg #[.int .i64 (Gr.bound ⟨h, ds, ⟨nx, ps⟩, tk, rc⟩).1, .int .i64 (Gr.bound ⟨h, ds, ⟨nx, ps⟩, tk, rc⟩).2]) ∧ Below w.heap.size w w' := by
  have HD : Hid (DIn w w.heap.size da ds) := hD
  have HP : Hid (PIn w w.heap.size pa ps) := hP
  have F0 : Hid (Blk ((w.alloc (.cells #[.int .i64 h.fl, .int .i64 h.gp, .int .i64 h.ln, .int .i64 h.rf, .int .i64 h.sp, .int .i64 h.pu, .int .i64 h.br, .int .i64 h.dr, .int .i64 h.lv, .int .i64 h.dO, .int .i64 h.ld, .int .i64 h.qu, .slice da ds.length dc, .int .i64 nx, .slice pa ps.length pc, .int .i64 tk, .bool rc] 38)).alloc (.cells #[.int .i64 0, .int .i64 0] 56)) w.heap.size (gvs h (.slice da ds.length dc) nx (.slice pa ps.length pc) tk rc)) := (Blk.at_ w #[.int .i64 h.fl, .int .i64 h.gp, .int .i64 h.ln, .int .i64 h.rf, .int .i64 h.sp, .int .i64 h.pu, .int .i64 h.br, .int .i64 h.dr, .int .i64 h.lv, .int .i64 h.dO, .int .i64 h.ld, .int .i64 h.qu, .slice da ds.length dc, .int .i64 nx, .slice pa ps.length pc, .int .i64 tk, .bool rc] _ _ rfl).alloc _
  have F1 : Hid (Blk ((w.alloc (.cells #[.int .i64 h.fl, .int .i64 h.gp, .int .i64 h.ln, .int .i64 h.rf, .int .i64 h.sp, .int .i64 h.pu, .int .i64 h.br, .int .i64 h.dr, .int .i64 h.lv, .int .i64 h.dO, .int .i64 h.ld, .int .i64 h.qu, .slice da ds.length dc, .int .i64 nx, .slice pa ps.length pc, .int .i64 tk, .bool rc] 38)).alloc (.cells #[.int .i64 0, .int .i64 0] 56)) (w.heap.size + 1) [.int .i64 0, .int .i64 0]) := Blk.at_ _ #[.int .i64 0, .int .i64 0] _ _ (by simp)
  have FB : Hid (Below w.heap.size w ((w.alloc (.cells #[.int .i64 h.fl, .int .i64 h.gp, .int .i64 h.ln, .int .i64 h.rf, .int .i64 h.sp, .int .i64 h.pu, .int .i64 h.br, .int .i64 h.dr, .int .i64 h.lv, .int .i64 h.dO, .int .i64 h.ld, .int .i64 h.qu, .slice da ds.length dc, .int .i64 nx, .slice pa ps.length pc, .int .i64 tk, .bool rc] 38)).alloc (.cells #[.int .i64 0, .int .i64 0] 56))) := ((Below.refl _ _).alloc (Nat.le_refl _) _).alloc (by simp) _
  obtain ⟨W0, hW0⟩ : ∃ W0, W0 = ((w.alloc (.cells #[.int .i64 h.fl, .int .i64 h.gp, .int .i64 h.ln, .int .i64 h.rf, .int .i64 h.sp, .int .i64 h.pu, .int .i64 h.br, .int .i64 h.dr, .int .i64 h.lv, .int .i64 h.dO, .int .i64 h.ld, .int .i64 h.qu, .slice da ds.length dc, .int .i64 nx, .slice pa ps.length pc, .int .i64 tk, .bool rc] 38)).alloc (.cells #[.int .i64 0, .int .i64 0] 56)) := ⟨_, rfl⟩
  rw [← hW0] at F0 F1 FB
  have HW0 : Hid (W0 = ((w.alloc (.cells #[.int .i64 h.fl, .int .i64 h.gp, .int .i64 h.ln, .int .i64 h.rf, .int .i64 h.sp, .int .i64 h.pu, .int .i64 h.br, .int .i64 h.dr, .int .i64 h.lv, .int .i64 h.dO, .int .i64 h.ld, .int .i64 h.qu, .slice da ds.length dc, .int .i64 nx, .slice pa ps.length pc, .int .i64 tk, .bool rc] 38)).alloc (.cells #[.int .i64 0, .int .i64 0] 56))) := hW0
  clear hW0 hD hP
  unfold Gr.bound
  by_cases k : Gr.fault ⟨h, ds, ⟨nx, ps⟩, tk, rc⟩ = 0
  case neg =>
    rw [if_neg k]
    obtain ⟨f, hf⟩ : ∃ f, Gr.fault ⟨h, ds, ⟨nx, ps⟩, tk, rc⟩ = f := ⟨_, rfl⟩
    rw [hf] at k ⊢
    have HF : Hid (Gr.fault ⟨h, ds, ⟨nx, ps⟩, tk, rc⟩ = f) := hf
    have e1 : (f != 0) = true := by simpa using k
    clear hf k
    go_enter Try.func24, Try.ntmps24
    go_upto_region 1 with fail
    rw [← HW0.out]
    go_wp2_with (first | (refine load_blk 38 _ Try.underlying38 (by kernel_rfl) F0.out rfl rfl rfl ?_) | (go_at_call 9; refine (specGroupFault_any h ds da dc nx ps pa pc tk rc hld hlp _ ((HD.out.below FB.out (Nat.le_refl _)).mono FB.out.size) ((HP.out.below FB.out (Nat.le_refl _)).mono FB.out.size)).mono ?_; rw [HF.out]; rintro e w1 ⟨rfl, hb⟩; have F0 : Hid (Blk w1 w.heap.size (gvs h (.slice da ds.length dc) nx (.slice pa ps.length pc) tk rc)) := F0.out.below hb F0.out.lt; have F1 : Hid (Blk w1 (w.heap.size + 1) [.int .i64 0, .int .i64 0]) := F1.out.below hb F1.out.lt; have FB : Hid (Below w.heap.size w w1) := FB.out.trans (hb.mono FB.out.size); clear hb) | (refine store_blk [.int .i64 f, .int .i64 0] 56 _ _ (by kernel_rfl) (by kernel_rfl) (by kernel_rfl) F1.out rfl rfl rfl rfl ?_))
    exact bodyPost_ret (v := .agg #[.int .i64 f, .int .i64 0]) ((F1.out.row [.int .i64 f, .int .i64 0]).res _ Try.results24 Try.underlying56 (by kernel_rfl) rfl) rfl ⟨rfl, below_row FB.out (by omega) _⟩
  have HF : Hid (Gr.fault ⟨h, ds, ⟨nx, ps⟩, tk, rc⟩ = 0) := k
  obtain ⟨hf, -, -, hld_, -⟩ := Gr.fault_parts k
  dsimp only at hf hld_
  rw [if_pos k]
  dsimp only
  have oo := Hs.ok_of (Hs.fault_zero hf).1
  have HO : Hid h.Ok := oo
  have hst := led_st8 hld_
  have HST : Hid (∀ (i : Nat) (p : Pe), ps[i]? = some p → 0 ≤ p.st ∧ p.st ≤ 4) := hst
  have len := (led_zero_iff.1 hld_).len
  dsimp only at len
  have sb := serve_bd oo
  obtain ⟨sv, hsv⟩ : ∃ sv, h.serve = sv := ⟨_, rfl⟩
  have HSV : Hid (h.serve = sv) := hsv
  rw [hsv] at sb
  have ub := used_bd ps
  obtain ⟨us, hus⟩ : ∃ us, used ps = us := ⟨_, rfl⟩
  have HUS : Hid (used ps = us) := hus
  rw [hus] at ub
  rw [hsv, hus]
  have e2 : IntKind.i64.wrap (2 * us) = 2 * us := IntWalk.i64_in _ (by omega)
  have e3 : IntKind.i64.wrap (2 * us + 2) = 2 * us + 2 := IntWalk.i64_in _ (by omega)
  have pb : 0 ≤ (2 * us + 2) * sv ∧ (2 * us + 2) * sv ≤ 1000 * 100000000 := by
    have a1 : (2 * us + 2) * sv ≤ 1000 * 100000000 := Int.mul_le_mul (by omega) (by omega) (by omega) (by omega)
    exact ⟨Int.mul_nonneg (by omega) (by omega), a1⟩
  have e4 : IntKind.i64.wrap ((2 * us + 2) * sv) = (2 * us + 2) * sv := IntWalk.i64_in _ (by omega)
  clear k hf hld_ oo hst hsv hus pb
  go_enter Try.func24, Try.ntmps24
  go_upto_region 1 with fail
  rw [← HW0.out]
  go_upto_region 4 with (first | (refine load_blk 38 _ Try.underlying38 (by kernel_rfl) F0.out rfl rfl rfl ?_) | (go_at_call 9; refine (specGroupFault_any h ds da dc nx ps pa pc tk rc hld hlp _ ((HD.out.below FB.out (Nat.le_refl _)).mono FB.out.size) ((HP.out.below FB.out (Nat.le_refl _)).mono FB.out.size)).mono ?_; rw [HF.out]; rintro e w1 ⟨rfl, hb⟩; have F0 : Hid (Blk w1 w.heap.size (gvs h (.slice da ds.length dc) nx (.slice pa ps.length pc) tk rc)) := F0.out.below hb F0.out.lt; have F1 : Hid (Blk w1 (w.heap.size + 1) [.int .i64 0, .int .i64 0]) := F1.out.below hb F1.out.lt; have FB : Hid (Below w.heap.size w w1) := FB.out.trans (hb.mono FB.out.size); clear hb))
  have m13 := F0.out.c 13 _ rfl
  have m14 := F0.out.c 14 _ rfl
  have ew : IntKind.i64.wrap ((cnt 0 (-1) 0 ps : Int) + (cnt 1 (-1) 0 ps : Int)) = us := by
    have q := HUS.out
    unfold used at q
    rw [q]
    exact IntWalk.i64_in _ (by omega)
  go_upto_region 5 with (go_at_call 60; refine (l7Count_anyO w.heap.size 13 nx pa pc ps _ (-1) 0 hlp _ ⟨F0.out.c 13 _ rfl, F0.out.c 14 _ rfl⟩ ((HP.out.below FB.out (Nat.le_refl _)).mono FB.out.size)).mono ?_; rintro e w2 ⟨rfl, hb⟩; have F0 : Hid (Blk w2 w.heap.size (gvs h (.slice da ds.length dc) nx (.slice pa ps.length pc) tk rc)) := F0.out.below hb F0.out.lt; have F1 : Hid (Blk w2 (w.heap.size + 1) [.int .i64 0, .int .i64 0]) := F1.out.below hb F1.out.lt; have FB : Hid (Below w.heap.size w w2) := FB.out.trans (hb.mono FB.out.size); clear hb)
  have x0 := F0.out.c 0 _ rfl
  have x1 := F0.out.c 1 _ rfl
  have x2 := F0.out.c 2 _ rfl
  have x3 := F0.out.c 3 _ rfl
  have x4 := F0.out.c 4 _ rfl
  have x5 := F0.out.c 5 _ rfl
  have x6 := F0.out.c 6 _ rfl
  have x7 := F0.out.c 7 _ rfl
  have x8 := F0.out.c 8 _ rfl
  have x9 := F0.out.c 9 _ rfl
  have x10 := F0.out.c 10 _ rfl
  have x11 := F0.out.c 11 _ rfl
  go_wp2_with (first | (go_at_call 61; refine (specServe_below h HO.out _).mono ?_; rw [HSV.out]; rintro e w3 ⟨rfl, hb⟩; have F0 : Hid (Blk w3 w.heap.size (gvs h (.slice da ds.length dc) nx (.slice pa ps.length pc) tk rc)) := F0.out.below hb F0.out.lt; have F1 : Hid (Blk w3 (w.heap.size + 1) [.int .i64 0, .int .i64 0]) := F1.out.below hb F1.out.lt; have FB : Hid (Below w.heap.size w w3) := FB.out.trans (hb.mono FB.out.size); clear hb) | (refine store_blk [.int .i64 0, .int .i64 ((2 * us + 2) * sv)] 56 _ _ (by kernel_rfl) (by kernel_rfl) (by kernel_rfl) F1.out rfl rfl rfl rfl ?_))
  exact bodyPost_ret (v := .agg #[.int .i64 0, .int .i64 ((2 * us + 2) * sv)]) ((F1.out.row [.int .i64 0, .int .i64 ((2 * us + 2) * sv)]).res _ Try.results24 Try.underlying56 (by kernel_rfl) rfl) rfl ⟨rfl, below_row FB.out (by omega) _⟩
end Go.Proofs.Ytehdgifinanbbaa
