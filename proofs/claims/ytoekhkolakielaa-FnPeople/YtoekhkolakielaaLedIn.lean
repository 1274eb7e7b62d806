/-
  The program's ledger: AlightAt, LetOut, BoardAt, people or none.
-/
import Derived.Test.YtoekhkolakielaaLedE
import Derived.Test.YtoekhkolakielaaLedH
import Derived.BigGuardPart
namespace Go.Proofs.Ytoekhkolakielaa
open Go.RowKit Pl
set_option linter.unusedSimpArgs false
set_option linter.unusedVariables false

theorem askd_led {h : Hs} {x : Lg} {sh ca fl : Int} (hk : Hs.askd h x sh ca fl = 0) : Hs.led h x = 0 := by
  unfold Hs.askd at hk
  split at hk
  · assumption
  · exact hk
theorem askd_car {h : Hs} {x : Lg} {sh ca fl : Int} (hk : Hs.askd h x sh ca fl = 0) : 0 ≤ sh ∧ sh ≤ 2 ∧ 0 ≤ ca ∧ ca ≤ 1 := by
  unfold Hs.askd at hk
  split at hk
  case isFalse q => exact absurd hk q
  split at hk
  case isFalse => omega
  case isTrue q =>
    have := q.1
    unfold carB at this
    simp only [Bool.and_eq_true, inB_iff] at this
    exact ⟨this.1.1, this.1.2, this.2.1, this.2.2⟩
set_option maxRecDepth 20000 in
set_option maxHeartbeats 16000000 in
theorem implAlightAt_pin (h : Hs) (x : Lg) (sh ca fl : Int) (aa : Option Addr) (cap : Nat) (hl : x.ps.length ≤ 1048576) (w : World) (hP : PIn w w.heap.size aa x.ps) :
    Calls Try.prog 8 #[.agg #[.int .i64 h.fl, .int .i64 h.gp, .int .i64 h.ln, .int .i64 h.rf, .int .i64 h.sp, .int .i64 h.pu, .int .i64 h.br, .int .i64 h.dr, .int .i64 h.lv, .int .i64 h.dO, .int .i64 h.ld, .int .i64 h.qu], .agg #[.int .i64 x.nx, .slice aa x.ps.length cap], .int .i64 sh, .int .i64 ca, .int .i64 fl] w (isLed w (Hs.askd h x sh ca fl) 0 (Hs.alightV h x sh ca fl).nx (Hs.alightV h x sh ca fl).ps) := by
  unfold Hs.alightV
  have HP : Hid (PIn w w.heap.size aa x.ps) := hP
  clear hP
  by_cases hk : (Hs.askd h x sh ca fl) = 0
  · rw [if_pos hk, hk]
    go_enter Try.func8, Try.ntmps8
    go_upto_region 1 with fail
    obtain ⟨W0, hW0⟩ : ∃ W0, W0 = ((((((w.alloc (.cells #[.int .i64 h.fl, .int .i64 h.gp, .int .i64 h.ln, .int .i64 h.rf, .int .i64 h.sp, .int .i64 h.pu, .int .i64 h.br, .int .i64 h.dr, .int .i64 h.lv, .int .i64 h.dO, .int .i64 h.ld, .int .i64 h.qu] 25)).alloc (.cells #[.int .i64 x.nx, .slice aa x.ps.length cap] 28)).alloc (.cells #[.int .i64 sh] 2)).alloc (.cells #[.int .i64 ca] 2)).alloc (.cells #[.int .i64 fl] 2)).alloc (.cells #[.int .i64 0, .int .i64 0, .int .i64 0, .slice none 0 0] 32)) := ⟨_, rfl⟩
    have F0 : Hid (HAt W0 w.heap.size h) := by rw [hW0]; exact (((((HAt.at_ w h _ _ rfl).alloc _).alloc _).alloc _).alloc _).alloc _
    have F1 : Hid (LW W0 (w.heap.size + 1) x.nx (.slice aa x.ps.length cap)) := by rw [hW0]; exact ((((LW.at_ _ x.nx (.slice aa x.ps.length cap) _ _ (by simp)).alloc _).alloc _).alloc _).alloc _
    have C1 : Hid (FC W0 (w.heap.size + 2) sh) := by rw [hW0]; exact (((FC.at_ _ sh _ _ (by simp)).alloc _).alloc _).alloc _
    have C2 : Hid (FC W0 (w.heap.size + 3) ca) := by rw [hW0]; exact ((FC.at_ _ ca _ _ (by simp)).alloc _).alloc _
    have C3 : Hid (FC W0 (w.heap.size + 4) fl) := by rw [hW0]; exact (FC.at_ _ fl _ _ (by simp)).alloc _
    have FR : Hid (RL W0 (w.heap.size + 5)) := by rw [hW0]; exact RL.at_ _ _ _ (by simp)
    have FB : Hid (Below w.heap.size w W0) := by rw [hW0]; exact ((((((Below.refl _ _).alloc (Nat.le_refl _) _).alloc (by simp) _).alloc (by simp; omega) _).alloc (by simp; omega) _).alloc (by simp; omega) _).alloc (by simp; omega) _
    have HP : Hid (PIn W0 w.heap.size aa x.ps) := HP.out.below FB.out (Nat.le_refl _)
    rw [← hW0]
    clear hW0
    obtain ⟨x0_0, x0_1, x0_2, x0_3, x0_4, x0_5, x0_6, x0_7, x0_8, x0_9, x0_10, x0_11⟩ := F0.out
    obtain ⟨x1_0, x1_1, y1_0, y1_1⟩ := F1.out
    have c1 := C1.out.c0
    have c2 := C2.out.c0
    have c3 := C3.out.c0
    go_wp2_with (first | (go_at_call 14; refine (askedStopFault_any h x sh ca fl aa cap hl _ (HP.out.mono FB.out.size)).mono ?_; rw [hk]; rintro e w1 ⟨rfl, hb⟩; have F0 : Hid (HAt w1 w.heap.size h) := F0.out.below hb F0.out.lt; have F1 : Hid (LW w1 (w.heap.size + 1) x.nx (.slice aa x.ps.length cap)) := F1.out.below hb F1.out.lt; have C1 : Hid (FC w1 (w.heap.size + 2) sh) := C1.out.below hb C1.out.lt; have C2 : Hid (FC w1 (w.heap.size + 3) ca) := C2.out.below hb C2.out.lt; have C3 : Hid (FC w1 (w.heap.size + 4) fl) := C3.out.below hb C3.out.lt; have FR : Hid (RL w1 (w.heap.size + 5)) := FR.out.below hb FR.out.lt; have HP : Hid (PIn w1 w.heap.size aa x.ps) := HP.out.below (hb.mono FB.out.size) (Nat.le_refl _); have FB : Hid (Below w.heap.size w w1) := FB.out.trans (hb.mono FB.out.size); clear hb; obtain ⟨x0_0, x0_1, x0_2, x0_3, x0_4, x0_5, x0_6, x0_7, x0_8, x0_9, x0_10, x0_11⟩ := F0.out; obtain ⟨x1_0, x1_1, y1_0, y1_1⟩ := F1.out; have c1 := C1.out.c0; have c2 := C2.out.c0; have c3 := C3.out.c0) | (go_at_call 16; refine (changed_alight x aa cap sh ca fl _ _ _ hl _ (HP.out.mono FB.out.size) ⟨C1.out.c0⟩ ⟨C2.out.c0⟩ ⟨C3.out.c0⟩).mono ?_; rintro e w2 ⟨v, rfl, ho, hb⟩; have lr := FR.out.lt; obtain ⟨ra, rc, rfl, -⟩ := ho.pin; have FO : Hid (Own w2 w.heap.size _ _) := ho.base FB.out.size; have NE : ∀ k, (Value.slice ra _ rc).ownBlock = some k → k ≠ w.heap.size + 5 := (fun k hk => by have := (ho.lt k hk).1; omega); have FR : Hid (RL w2 (w.heap.size + 5)) := FR.out.below hb FR.out.lt; have FB : Hid (Below w.heap.size w w2) := FB.out.trans (hb.mono FB.out.size); clear hb ho; obtain ⟨r0, r1, r2, r3, s0, s1, s2, s3⟩ := FR.out))
    exact bodyPost_ret (v := .agg #[.int .i64 0, .int .i64 0, .int .i64 x.nx, .slice ra _ rc]) (by simp [results, Try.results8, go_sem, r0, r1, r2, r3]) rfl ⟨_, rfl, FO.out.putR NE 0 0 x.nx _, (((FB.out.setCell (by simp <;> omega) _).setCell (by simp <;> omega) _).setCell (by simp <;> omega) _).setCell (by simp <;> omega) _⟩
  · rw [if_neg hk]
    have hn : ((Hs.askd h x sh ca fl) != 0) = true := by simpa using hk
    clear hk
    go_enter Try.func8, Try.ntmps8
    go_upto_region 1 with fail
    obtain ⟨W0, hW0⟩ : ∃ W0, W0 = ((((((w.alloc (.cells #[.int .i64 h.fl, .int .i64 h.gp, .int .i64 h.ln, .int .i64 h.rf, .int .i64 h.sp, .int .i64 h.pu, .int .i64 h.br, .int .i64 h.dr, .int .i64 h.lv, .int .i64 h.dO, .int .i64 h.ld, .int .i64 h.qu] 25)).alloc (.cells #[.int .i64 x.nx, .slice aa x.ps.length cap] 28)).alloc (.cells #[.int .i64 sh] 2)).alloc (.cells #[.int .i64 ca] 2)).alloc (.cells #[.int .i64 fl] 2)).alloc (.cells #[.int .i64 0, .int .i64 0, .int .i64 0, .slice none 0 0] 32)) := ⟨_, rfl⟩
    have F0 : Hid (HAt W0 w.heap.size h) := by rw [hW0]; exact (((((HAt.at_ w h _ _ rfl).alloc _).alloc _).alloc _).alloc _).alloc _
    have F1 : Hid (LW W0 (w.heap.size + 1) x.nx (.slice aa x.ps.length cap)) := by rw [hW0]; exact ((((LW.at_ _ x.nx (.slice aa x.ps.length cap) _ _ (by simp)).alloc _).alloc _).alloc _).alloc _
    have C1 : Hid (FC W0 (w.heap.size + 2) sh) := by rw [hW0]; exact (((FC.at_ _ sh _ _ (by simp)).alloc _).alloc _).alloc _
    have C2 : Hid (FC W0 (w.heap.size + 3) ca) := by rw [hW0]; exact ((FC.at_ _ ca _ _ (by simp)).alloc _).alloc _
    have C3 : Hid (FC W0 (w.heap.size + 4) fl) := by rw [hW0]; exact (FC.at_ _ fl _ _ (by simp)).alloc _
    have FR : Hid (RL W0 (w.heap.size + 5)) := by rw [hW0]; exact RL.at_ _ _ _ (by simp)
    have FB : Hid (Below w.heap.size w W0) := by rw [hW0]; exact ((((((Below.refl _ _).alloc (Nat.le_refl _) _).alloc (by simp) _).alloc (by simp; omega) _).alloc (by simp; omega) _).alloc (by simp; omega) _).alloc (by simp; omega) _
    have HP : Hid (PIn W0 w.heap.size aa x.ps) := HP.out.below FB.out (Nat.le_refl _)
    rw [← hW0]
    clear hW0
    obtain ⟨x0_0, x0_1, x0_2, x0_3, x0_4, x0_5, x0_6, x0_7, x0_8, x0_9, x0_10, x0_11⟩ := F0.out
    obtain ⟨x1_0, x1_1, y1_0, y1_1⟩ := F1.out
    have c1 := C1.out.c0
    have c2 := C2.out.c0
    have c3 := C3.out.c0
    go_upto_region 3 with (go_at_call 14; refine (askedStopFault_any h x sh ca fl aa cap hl _ (HP.out.mono FB.out.size)).mono ?_;  rintro e w1 ⟨rfl, hb⟩; have F0 : Hid (HAt w1 w.heap.size h) := F0.out.below hb F0.out.lt; have F1 : Hid (LW w1 (w.heap.size + 1) x.nx (.slice aa x.ps.length cap)) := F1.out.below hb F1.out.lt; have C1 : Hid (FC w1 (w.heap.size + 2) sh) := C1.out.below hb C1.out.lt; have C2 : Hid (FC w1 (w.heap.size + 3) ca) := C2.out.below hb C2.out.lt; have C3 : Hid (FC w1 (w.heap.size + 4) fl) := C3.out.below hb C3.out.lt; have FR : Hid (RL w1 (w.heap.size + 5)) := FR.out.below hb FR.out.lt; have HP : Hid (PIn w1 w.heap.size aa x.ps) := HP.out.below (hb.mono FB.out.size) (Nat.le_refl _); have FB : Hid (Below w.heap.size w w1) := FB.out.trans (hb.mono FB.out.size); clear hb; obtain ⟨x0_0, x0_1, x0_2, x0_3, x0_4, x0_5, x0_6, x0_7, x0_8, x0_9, x0_10, x0_11⟩ := F0.out; obtain ⟨x1_0, x1_1, y1_0, y1_1⟩ := F1.out; have c1 := C1.out.c0; have c2 := C2.out.c0; have c3 := C3.out.c0)
    obtain ⟨r0, r1, r2, r3, s0, s1, s2, s3⟩ := FR.out
    go_wp2_with fail
    exact bodyPost_ret (v := .agg #[.int .i64 (Hs.askd h x sh ca fl), .int .i64 0, .int .i64 0, .slice none 0 0]) (by simp [results, Try.results8, go_sem, r0, r1, r2, r3]) rfl ⟨_, rfl, own_nil _ _, (((FB.out.setCell (by simp <;> omega) _).setCell (by simp <;> omega) _).setCell (by simp <;> omega) _).setCell (by simp <;> omega) _⟩
set_option maxRecDepth 20000 in
set_option maxHeartbeats 16000000 in
theorem implLetOut_pin (h : Hs) (x : Lg) (sh ca fl : Int) (aa : Option Addr) (cap : Nat) (hl : x.ps.length ≤ 1048576) (w : World) (hP : PIn w w.heap.size aa x.ps) :
    Calls Try.prog 9 #[.agg #[.int .i64 h.fl, .int .i64 h.gp, .int .i64 h.ln, .int .i64 h.rf, .int .i64 h.sp, .int .i64 h.pu, .int .i64 h.br, .int .i64 h.dr, .int .i64 h.lv, .int .i64 h.dO, .int .i64 h.ld, .int .i64 h.qu], .agg #[.int .i64 x.nx, .slice aa x.ps.length cap], .int .i64 sh, .int .i64 ca, .int .i64 fl] w (isLed w (Hs.askd h x sh ca fl) 0 (Hs.outV h x sh ca fl).nx (Hs.outV h x sh ca fl).ps) := by
  unfold Hs.outV
  have HP : Hid (PIn w w.heap.size aa x.ps) := hP
  clear hP
  by_cases hk : (Hs.askd h x sh ca fl) = 0
  · rw [if_pos hk, hk]
    go_enter Try.func9, Try.ntmps9
    go_upto_region 1 with fail
    obtain ⟨W0, hW0⟩ : ∃ W0, W0 = ((((((w.alloc (.cells #[.int .i64 h.fl, .int .i64 h.gp, .int .i64 h.ln, .int .i64 h.rf, .int .i64 h.sp, .int .i64 h.pu, .int .i64 h.br, .int .i64 h.dr, .int .i64 h.lv, .int .i64 h.dO, .int .i64 h.ld, .int .i64 h.qu] 25)).alloc (.cells #[.int .i64 x.nx, .slice aa x.ps.length cap] 28)).alloc (.cells #[.int .i64 sh] 2)).alloc (.cells #[.int .i64 ca] 2)).alloc (.cells #[.int .i64 fl] 2)).alloc (.cells #[.int .i64 0, .int .i64 0, .int .i64 0, .slice none 0 0] 32)) := ⟨_, rfl⟩
    have F0 : Hid (HAt W0 w.heap.size h) := by rw [hW0]; exact (((((HAt.at_ w h _ _ rfl).alloc _).alloc _).alloc _).alloc _).alloc _
    have F1 : Hid (LW W0 (w.heap.size + 1) x.nx (.slice aa x.ps.length cap)) := by rw [hW0]; exact ((((LW.at_ _ x.nx (.slice aa x.ps.length cap) _ _ (by simp)).alloc _).alloc _).alloc _).alloc _
    have C1 : Hid (FC W0 (w.heap.size + 2) sh) := by rw [hW0]; exact (((FC.at_ _ sh _ _ (by simp)).alloc _).alloc _).alloc _
    have C2 : Hid (FC W0 (w.heap.size + 3) ca) := by rw [hW0]; exact ((FC.at_ _ ca _ _ (by simp)).alloc _).alloc _
    have C3 : Hid (FC W0 (w.heap.size + 4) fl) := by rw [hW0]; exact (FC.at_ _ fl _ _ (by simp)).alloc _
    have FR : Hid (RL W0 (w.heap.size + 5)) := by rw [hW0]; exact RL.at_ _ _ _ (by simp)
    have FB : Hid (Below w.heap.size w W0) := by rw [hW0]; exact ((((((Below.refl _ _).alloc (Nat.le_refl _) _).alloc (by simp) _).alloc (by simp; omega) _).alloc (by simp; omega) _).alloc (by simp; omega) _).alloc (by simp; omega) _
    have HP : Hid (PIn W0 w.heap.size aa x.ps) := HP.out.below FB.out (Nat.le_refl _)
    rw [← hW0]
    clear hW0
    obtain ⟨x0_0, x0_1, x0_2, x0_3, x0_4, x0_5, x0_6, x0_7, x0_8, x0_9, x0_10, x0_11⟩ := F0.out
    obtain ⟨x1_0, x1_1, y1_0, y1_1⟩ := F1.out
    have c1 := C1.out.c0
    have c2 := C2.out.c0
    have c3 := C3.out.c0
    go_wp2_with (first | (go_at_call 14; refine (askedStopFault_any h x sh ca fl aa cap hl _ (HP.out.mono FB.out.size)).mono ?_; rw [hk]; rintro e w1 ⟨rfl, hb⟩; have F0 : Hid (HAt w1 w.heap.size h) := F0.out.below hb F0.out.lt; have F1 : Hid (LW w1 (w.heap.size + 1) x.nx (.slice aa x.ps.length cap)) := F1.out.below hb F1.out.lt; have C1 : Hid (FC w1 (w.heap.size + 2) sh) := C1.out.below hb C1.out.lt; have C2 : Hid (FC w1 (w.heap.size + 3) ca) := C2.out.below hb C2.out.lt; have C3 : Hid (FC w1 (w.heap.size + 4) fl) := C3.out.below hb C3.out.lt; have FR : Hid (RL w1 (w.heap.size + 5)) := FR.out.below hb FR.out.lt; have HP : Hid (PIn w1 w.heap.size aa x.ps) := HP.out.below (hb.mono FB.out.size) (Nat.le_refl _); have FB : Hid (Below w.heap.size w w1) := FB.out.trans (hb.mono FB.out.size); clear hb; obtain ⟨x0_0, x0_1, x0_2, x0_3, x0_4, x0_5, x0_6, x0_7, x0_8, x0_9, x0_10, x0_11⟩ := F0.out; obtain ⟨x1_0, x1_1, y1_0, y1_1⟩ := F1.out; have c1 := C1.out.c0; have c2 := C2.out.c0; have c3 := C3.out.c0) | (go_at_call 16; refine (changed_out x aa cap sh ca fl _ _ _ hl _ (HP.out.mono FB.out.size) ⟨C1.out.c0⟩ ⟨C2.out.c0⟩ ⟨C3.out.c0⟩).mono ?_; rintro e w2 ⟨v, rfl, ho, hb⟩; have lr := FR.out.lt; obtain ⟨ra, rc, rfl, -⟩ := ho.pin; have FO : Hid (Own w2 w.heap.size _ _) := ho.base FB.out.size; have NE : ∀ k, (Value.slice ra _ rc).ownBlock = some k → k ≠ w.heap.size + 5 := (fun k hk => by have := (ho.lt k hk).1; omega); have FR : Hid (RL w2 (w.heap.size + 5)) := FR.out.below hb FR.out.lt; have FB : Hid (Below w.heap.size w w2) := FB.out.trans (hb.mono FB.out.size); clear hb ho; obtain ⟨r0, r1, r2, r3, s0, s1, s2, s3⟩ := FR.out))
    exact bodyPost_ret (v := .agg #[.int .i64 0, .int .i64 0, .int .i64 x.nx, .slice ra _ rc]) (by simp [results, Try.results9, go_sem, r0, r1, r2, r3]) rfl ⟨_, rfl, FO.out.putR NE 0 0 x.nx _, (((FB.out.setCell (by simp <;> omega) _).setCell (by simp <;> omega) _).setCell (by simp <;> omega) _).setCell (by simp <;> omega) _⟩
  · rw [if_neg hk]
    have hn : ((Hs.askd h x sh ca fl) != 0) = true := by simpa using hk
    clear hk
    go_enter Try.func9, Try.ntmps9
    go_upto_region 1 with fail
    obtain ⟨W0, hW0⟩ : ∃ W0, W0 = ((((((w.alloc (.cells #[.int .i64 h.fl, .int .i64 h.gp, .int .i64 h.ln, .int .i64 h.rf, .int .i64 h.sp, .int .i64 h.pu, .int .i64 h.br, .int .i64 h.dr, .int .i64 h.lv, .int .i64 h.dO, .int .i64 h.ld, .int .i64 h.qu] 25)).alloc (.cells #[.int .i64 x.nx, .slice aa x.ps.length cap] 28)).alloc (.cells #[.int .i64 sh] 2)).alloc (.cells #[.int .i64 ca] 2)).alloc (.cells #[.int .i64 fl] 2)).alloc (.cells #[.int .i64 0, .int .i64 0, .int .i64 0, .slice none 0 0] 32)) := ⟨_, rfl⟩
    have F0 : Hid (HAt W0 w.heap.size h) := by rw [hW0]; exact (((((HAt.at_ w h _ _ rfl).alloc _).alloc _).alloc _).alloc _).alloc _
    have F1 : Hid (LW W0 (w.heap.size + 1) x.nx (.slice aa x.ps.length cap)) := by rw [hW0]; exact ((((LW.at_ _ x.nx (.slice aa x.ps.length cap) _ _ (by simp)).alloc _).alloc _).alloc _).alloc _
    have C1 : Hid (FC W0 (w.heap.size + 2) sh) := by rw [hW0]; exact (((FC.at_ _ sh _ _ (by simp)).alloc _).alloc _).alloc _
    have C2 : Hid (FC W0 (w.heap.size + 3) ca) := by rw [hW0]; exact ((FC.at_ _ ca _ _ (by simp)).alloc _).alloc _
    have C3 : Hid (FC W0 (w.heap.size + 4) fl) := by rw [hW0]; exact (FC.at_ _ fl _ _ (by simp)).alloc _
    have FR : Hid (RL W0 (w.heap.size + 5)) := by rw [hW0]; exact RL.at_ _ _ _ (by simp)
    have FB : Hid (Below w.heap.size w W0) := by rw [hW0]; exact ((((((Below.refl _ _).alloc (Nat.le_refl _) _).alloc (by simp) _).alloc (by simp; omega) _).alloc (by simp; omega) _).alloc (by simp; omega) _).alloc (by simp; omega) _
    have HP : Hid (PIn W0 w.heap.size aa x.ps) := HP.out.below FB.out (Nat.le_refl _)
    rw [← hW0]
    clear hW0
    obtain ⟨x0_0, x0_1, x0_2, x0_3, x0_4, x0_5, x0_6, x0_7, x0_8, x0_9, x0_10, x0_11⟩ := F0.out
    obtain ⟨x1_0, x1_1, y1_0, y1_1⟩ := F1.out
    have c1 := C1.out.c0
    have c2 := C2.out.c0
    have c3 := C3.out.c0
    go_upto_region 3 with (go_at_call 14; refine (askedStopFault_any h x sh ca fl aa cap hl _ (HP.out.mono FB.out.size)).mono ?_;  rintro e w1 ⟨rfl, hb⟩; have F0 : Hid (HAt w1 w.heap.size h) := F0.out.below hb F0.out.lt; have F1 : Hid (LW w1 (w.heap.size + 1) x.nx (.slice aa x.ps.length cap)) := F1.out.below hb F1.out.lt; have C1 : Hid (FC w1 (w.heap.size + 2) sh) := C1.out.below hb C1.out.lt; have C2 : Hid (FC w1 (w.heap.size + 3) ca) := C2.out.below hb C2.out.lt; have C3 : Hid (FC w1 (w.heap.size + 4) fl) := C3.out.below hb C3.out.lt; have FR : Hid (RL w1 (w.heap.size + 5)) := FR.out.below hb FR.out.lt; have HP : Hid (PIn w1 w.heap.size aa x.ps) := HP.out.below (hb.mono FB.out.size) (Nat.le_refl _); have FB : Hid (Below w.heap.size w w1) := FB.out.trans (hb.mono FB.out.size); clear hb; obtain ⟨x0_0, x0_1, x0_2, x0_3, x0_4, x0_5, x0_6, x0_7, x0_8, x0_9, x0_10, x0_11⟩ := F0.out; obtain ⟨x1_0, x1_1, y1_0, y1_1⟩ := F1.out; have c1 := C1.out.c0; have c2 := C2.out.c0; have c3 := C3.out.c0)
    obtain ⟨r0, r1, r2, r3, s0, s1, s2, s3⟩ := FR.out
    go_wp2_with fail
    exact bodyPost_ret (v := .agg #[.int .i64 (Hs.askd h x sh ca fl), .int .i64 0, .int .i64 0, .slice none 0 0]) (by simp [results, Try.results9, go_sem, r0, r1, r2, r3]) rfl ⟨_, rfl, own_nil _ _, (((FB.out.setCell (by simp <;> omega) _).setCell (by simp <;> omega) _).setCell (by simp <;> omega) _).setCell (by simp <;> omega) _⟩
set_option maxRecDepth 20000 in
set_option maxHeartbeats 16000000 in
theorem implBoardAt_pin (h : Hs) (x : Lg) (sh ca fl : Int) (aa : Option Addr) (cap : Nat) (hl : x.ps.length ≤ 1048576) (w : World) (hP : PIn w w.heap.size aa x.ps) :
    Calls Try.prog 6 #[.agg #[.int .i64 h.fl, .int .i64 h.gp, .int .i64 h.ln, .int .i64 h.rf, .int .i64 h.sp, .int .i64 h.pu, .int .i64 h.br, .int .i64 h.dr, .int .i64 h.lv, .int .i64 h.dO, .int .i64 h.ld, .int .i64 h.qu], .agg #[.int .i64 x.nx, .slice aa x.ps.length cap], .int .i64 sh, .int .i64 ca, .int .i64 fl] w (isLed w (Hs.askd h x sh ca fl) 0 (Hs.boardV h x sh ca fl).nx (Hs.boardV h x sh ca fl).ps) := by
  unfold Hs.boardV
  have HP : Hid (PIn w w.heap.size aa x.ps) := hP
  clear hP
  by_cases hk : (Hs.askd h x sh ca fl) = 0
  · have oo := led_fl (askd_led hk)
    have d1 := oo.ld1; have d2 := oo.ld2
    have s1 : 0 ≤ sh := (askd_car hk).1
    have HRC : Hid (h.ld - ((riders sh ca x.ps).length : Int) = (h.ld - (cnt 1 sh ca x.ps : Int))) := by rw [riders_cnt s1]; exact rfl
    clear oo
    rw [if_pos hk, hk]
    go_enter Try.func6, Try.ntmps6
    go_upto_region 1 with fail
    obtain ⟨W0, hW0⟩ : ∃ W0, W0 = ((((((w.alloc (.cells #[.int .i64 h.fl, .int .i64 h.gp, .int .i64 h.ln, .int .i64 h.rf, .int .i64 h.sp, .int .i64 h.pu, .int .i64 h.br, .int .i64 h.dr, .int .i64 h.lv, .int .i64 h.dO, .int .i64 h.ld, .int .i64 h.qu] 25)).alloc (.cells #[.int .i64 x.nx, .slice aa x.ps.length cap] 28)).alloc (.cells #[.int .i64 sh] 2)).alloc (.cells #[.int .i64 ca] 2)).alloc (.cells #[.int .i64 fl] 2)).alloc (.cells #[.int .i64 0, .int .i64 0, .int .i64 0, .slice none 0 0] 32)) := ⟨_, rfl⟩
    have F0 : Hid (HAt W0 w.heap.size h) := by rw [hW0]; exact (((((HAt.at_ w h _ _ rfl).alloc _).alloc _).alloc _).alloc _).alloc _
    have F1 : Hid (LW W0 (w.heap.size + 1) x.nx (.slice aa x.ps.length cap)) := by rw [hW0]; exact ((((LW.at_ _ x.nx (.slice aa x.ps.length cap) _ _ (by simp)).alloc _).alloc _).alloc _).alloc _
    have C1 : Hid (FC W0 (w.heap.size + 2) sh) := by rw [hW0]; exact (((FC.at_ _ sh _ _ (by simp)).alloc _).alloc _).alloc _
    have C2 : Hid (FC W0 (w.heap.size + 3) ca) := by rw [hW0]; exact ((FC.at_ _ ca _ _ (by simp)).alloc _).alloc _
    have C3 : Hid (FC W0 (w.heap.size + 4) fl) := by rw [hW0]; exact (FC.at_ _ fl _ _ (by simp)).alloc _
    have FR : Hid (RL W0 (w.heap.size + 5)) := by rw [hW0]; exact RL.at_ _ _ _ (by simp)
    have FB : Hid (Below w.heap.size w W0) := by rw [hW0]; exact ((((((Below.refl _ _).alloc (Nat.le_refl _) _).alloc (by simp) _).alloc (by simp; omega) _).alloc (by simp; omega) _).alloc (by simp; omega) _).alloc (by simp; omega) _
    have HP : Hid (PIn W0 w.heap.size aa x.ps) := HP.out.below FB.out (Nat.le_refl _)
    rw [← hW0]
    clear hW0
    obtain ⟨x0_0, x0_1, x0_2, x0_3, x0_4, x0_5, x0_6, x0_7, x0_8, x0_9, x0_10, x0_11⟩ := F0.out
    obtain ⟨x1_0, x1_1, y1_0, y1_1⟩ := F1.out
    have c1 := C1.out.c0
    have c2 := C2.out.c0
    have c3 := C3.out.c0
    go_upto_region 5 with (first | (go_at_call 14; refine (askedStopFault_any h x sh ca fl aa cap hl _ (HP.out.mono FB.out.size)).mono ?_; rw [hk]; rintro e w1 ⟨rfl, hb⟩; have F0 : Hid (HAt w1 w.heap.size h) := F0.out.below hb F0.out.lt; have F1 : Hid (LW w1 (w.heap.size + 1) x.nx (.slice aa x.ps.length cap)) := F1.out.below hb F1.out.lt; have C1 : Hid (FC w1 (w.heap.size + 2) sh) := C1.out.below hb C1.out.lt; have C2 : Hid (FC w1 (w.heap.size + 3) ca) := C2.out.below hb C2.out.lt; have C3 : Hid (FC w1 (w.heap.size + 4) fl) := C3.out.below hb C3.out.lt; have FR : Hid (RL w1 (w.heap.size + 5)) := FR.out.below hb FR.out.lt; have HP : Hid (PIn w1 w.heap.size aa x.ps) := HP.out.below (hb.mono FB.out.size) (Nat.le_refl _); have FB : Hid (Below w.heap.size w w1) := FB.out.trans (hb.mono FB.out.size); clear hb; obtain ⟨x0_0, x0_1, x0_2, x0_3, x0_4, x0_5, x0_6, x0_7, x0_8, x0_9, x0_10, x0_11⟩ := F0.out; obtain ⟨x1_0, x1_1, y1_0, y1_1⟩ := F1.out; have c1 := C1.out.c0; have c2 := C2.out.c0; have c3 := C3.out.c0) | (go_at_call 15; refine (freePlaces_any h (by omega) d2 x.ps aa cap sh ca hl _ (HP.out.mono FB.out.size)).mono ?_; rw [HRC.out]; rintro e w2 ⟨rfl, hb⟩; have F0 : Hid (HAt w2 w.heap.size h) := F0.out.below hb F0.out.lt; have F1 : Hid (LW w2 (w.heap.size + 1) x.nx (.slice aa x.ps.length cap)) := F1.out.below hb F1.out.lt; have C1 : Hid (FC w2 (w.heap.size + 2) sh) := C1.out.below hb C1.out.lt; have C2 : Hid (FC w2 (w.heap.size + 3) ca) := C2.out.below hb C2.out.lt; have C3 : Hid (FC w2 (w.heap.size + 4) fl) := C3.out.below hb C3.out.lt; have FR : Hid (RL w2 (w.heap.size + 5)) := FR.out.below hb FR.out.lt; have HP : Hid (PIn w2 w.heap.size aa x.ps) := HP.out.below (hb.mono FB.out.size) (Nat.le_refl _); have FB : Hid (Below w.heap.size w w2) := FB.out.trans (hb.mono FB.out.size); clear hb; obtain ⟨x0_0, x0_1, x0_2, x0_3, x0_4, x0_5, x0_6, x0_7, x0_8, x0_9, x0_10, x0_11⟩ := F0.out; obtain ⟨x1_0, x1_1, y1_0, y1_1⟩ := F1.out; have c1 := C1.out.c0; have c2 := C2.out.c0; have c3 := C3.out.c0))
    obtain ⟨fb, hfb⟩ : ∃ fb, fb = w2.heap.size := ⟨_, rfl⟩
    have lfb : w.heap.size + 5 < fb := by rw [hfb]; exact FR.out.lt
    obtain ⟨w3, hw3⟩ : ∃ w3, w3 = w2.alloc (.cells #[.int .i64 (h.ld - (cnt 1 sh ca x.ps : Int))] 2) := ⟨_, rfl⟩
    have HP : Hid (PIn w3 w.heap.size aa x.ps) := by rw [hw3]; exact HP.out.below ((Below.refl w.heap.size w2).alloc FB.out.size _) (Nat.le_refl _)
    have F0 : Hid (HAt w3 w.heap.size h) := by rw [hw3]; exact F0.out.alloc _
    have F1 : Hid (LW w3 (w.heap.size + 1) x.nx (.slice aa x.ps.length cap)) := by rw [hw3]; exact F1.out.alloc _
    have C1 : Hid (FC w3 (w.heap.size + 2) sh) := by rw [hw3]; exact C1.out.alloc _
    have C2 : Hid (FC w3 (w.heap.size + 3) ca) := by rw [hw3]; exact C2.out.alloc _
    have C3 : Hid (FC w3 (w.heap.size + 4) fl) := by rw [hw3]; exact C3.out.alloc _
    have FR : Hid (RL w3 (w.heap.size + 5)) := by rw [hw3]; exact FR.out.alloc _
    have C0 : Hid (FC w3 fb (h.ld - (cnt 1 sh ca x.ps : Int))) := by rw [hw3]; exact FC.at_ w2 (h.ld - (cnt 1 sh ca x.ps : Int)) _ _ hfb
    have FB : Hid (Below w.heap.size w w3) := by rw [hw3]; exact FB.out.alloc FB.out.size _
    rw [← hw3]
    clear hw3
    rw [← hfb]
    clear hfb
    obtain ⟨x0_0, x0_1, x0_2, x0_3, x0_4, x0_5, x0_6, x0_7, x0_8, x0_9, x0_10, x0_11⟩ := F0.out
    obtain ⟨x1_0, x1_1, y1_0, y1_1⟩ := F1.out
    have c1 := C1.out.c0
    have c2 := C2.out.c0
    have c3 := C3.out.c0
    go_wp2_with (go_at_call 16; refine (changed_board x aa cap h.ld sh ca fl (by omega) d2 s1 fb _ _ _ (by omega) (by omega) (by omega) hl _ (HP.out.mono FB.out.size) C0 ⟨C1.out.c0⟩ ⟨C2.out.c0⟩ ⟨C3.out.c0⟩).mono ?_; rintro e w4 ⟨v, rfl, ho, hg⟩; have lr := FR.out.lt; obtain ⟨ra, rc, rfl, -⟩ := ho.pin; have FO : Hid (Own w4 w.heap.size _ _) := ho.base FB.out.size; have NE : ∀ k, (Value.slice ra _ rc).ownBlock = some k → k ≠ w.heap.size + 5 := (fun k hk => by have := (ho.lt k hk).1; omega); have FR : Hid (RL w4 (w.heap.size + 5)) := FR.out.grown hg (fun e => by have e2 := Option.some.inj e; omega); have FB : Hid (Below w.heap.size w w4) := FB.out.grown hg FB.out.size (fun j hj => by have e2 := Option.some.inj hj; omega); clear hg ho; obtain ⟨r0, r1, r2, r3, s0, s1, s2, s3⟩ := FR.out)
    exact bodyPost_ret (v := .agg #[.int .i64 0, .int .i64 0, .int .i64 x.nx, .slice ra _ rc]) (by simp [results, Try.results6, go_sem, r0, r1, r2, r3]) rfl ⟨_, rfl, FO.out.putR NE 0 0 x.nx _, (((FB.out.setCell (by simp <;> omega) _).setCell (by simp <;> omega) _).setCell (by simp <;> omega) _).setCell (by simp <;> omega) _⟩
  · rw [if_neg hk]
    have hn : ((Hs.askd h x sh ca fl) != 0) = true := by simpa using hk
    clear hk
    go_enter Try.func6, Try.ntmps6
    go_upto_region 1 with fail
    obtain ⟨W0, hW0⟩ : ∃ W0, W0 = ((((((w.alloc (.cells #[.int .i64 h.fl, .int .i64 h.gp, .int .i64 h.ln, .int .i64 h.rf, .int .i64 h.sp, .int .i64 h.pu, .int .i64 h.br, .int .i64 h.dr, .int .i64 h.lv, .int .i64 h.dO, .int .i64 h.ld, .int .i64 h.qu] 25)).alloc (.cells #[.int .i64 x.nx, .slice aa x.ps.length cap] 28)).alloc (.cells #[.int .i64 sh] 2)).alloc (.cells #[.int .i64 ca] 2)).alloc (.cells #[.int .i64 fl] 2)).alloc (.cells #[.int .i64 0, .int .i64 0, .int .i64 0, .slice none 0 0] 32)) := ⟨_, rfl⟩
    have F0 : Hid (HAt W0 w.heap.size h) := by rw [hW0]; exact (((((HAt.at_ w h _ _ rfl).alloc _).alloc _).alloc _).alloc _).alloc _
    have F1 : Hid (LW W0 (w.heap.size + 1) x.nx (.slice aa x.ps.length cap)) := by rw [hW0]; exact ((((LW.at_ _ x.nx (.slice aa x.ps.length cap) _ _ (by simp)).alloc _).alloc _).alloc _).alloc _
    have C1 : Hid (FC W0 (w.heap.size + 2) sh) := by rw [hW0]; exact (((FC.at_ _ sh _ _ (by simp)).alloc _).alloc _).alloc _
    have C2 : Hid (FC W0 (w.heap.size + 3) ca) := by rw [hW0]; exact ((FC.at_ _ ca _ _ (by simp)).alloc _).alloc _
    have C3 : Hid (FC W0 (w.heap.size + 4) fl) := by rw [hW0]; exact (FC.at_ _ fl _ _ (by simp)).alloc _
    have FR : Hid (RL W0 (w.heap.size + 5)) := by rw [hW0]; exact RL.at_ _ _ _ (by simp)
    have FB : Hid (Below w.heap.size w W0) := by rw [hW0]; exact ((((((Below.refl _ _).alloc (Nat.le_refl _) _).alloc (by simp) _).alloc (by simp; omega) _).alloc (by simp; omega) _).alloc (by simp; omega) _).alloc (by simp; omega) _
    have HP : Hid (PIn W0 w.heap.size aa x.ps) := HP.out.below FB.out (Nat.le_refl _)
    rw [← hW0]
    clear hW0
    obtain ⟨x0_0, x0_1, x0_2, x0_3, x0_4, x0_5, x0_6, x0_7, x0_8, x0_9, x0_10, x0_11⟩ := F0.out
    obtain ⟨x1_0, x1_1, y1_0, y1_1⟩ := F1.out
    have c1 := C1.out.c0
    have c2 := C2.out.c0
    have c3 := C3.out.c0
    go_upto_region 3 with (go_at_call 14; refine (askedStopFault_any h x sh ca fl aa cap hl _ (HP.out.mono FB.out.size)).mono ?_;  rintro e w1 ⟨rfl, hb⟩; have F0 : Hid (HAt w1 w.heap.size h) := F0.out.below hb F0.out.lt; have F1 : Hid (LW w1 (w.heap.size + 1) x.nx (.slice aa x.ps.length cap)) := F1.out.below hb F1.out.lt; have C1 : Hid (FC w1 (w.heap.size + 2) sh) := C1.out.below hb C1.out.lt; have C2 : Hid (FC w1 (w.heap.size + 3) ca) := C2.out.below hb C2.out.lt; have C3 : Hid (FC w1 (w.heap.size + 4) fl) := C3.out.below hb C3.out.lt; have FR : Hid (RL w1 (w.heap.size + 5)) := FR.out.below hb FR.out.lt; have HP : Hid (PIn w1 w.heap.size aa x.ps) := HP.out.below (hb.mono FB.out.size) (Nat.le_refl _); have FB : Hid (Below w.heap.size w w1) := FB.out.trans (hb.mono FB.out.size); clear hb; obtain ⟨x0_0, x0_1, x0_2, x0_3, x0_4, x0_5, x0_6, x0_7, x0_8, x0_9, x0_10, x0_11⟩ := F0.out; obtain ⟨x1_0, x1_1, y1_0, y1_1⟩ := F1.out; have c1 := C1.out.c0; have c2 := C2.out.c0; have c3 := C3.out.c0)
    obtain ⟨r0, r1, r2, r3, s0, s1, s2, s3⟩ := FR.out
    go_wp2_with fail
    exact bodyPost_ret (v := .agg #[.int .i64 (Hs.askd h x sh ca fl), .int .i64 0, .int .i64 0, .slice none 0 0]) (by simp [results, Try.results6, go_sem, r0, r1, r2, r3]) rfl ⟨_, rfl, own_nil _ _, (((FB.out.setCell (by simp <;> omega) _).setCell (by simp <;> omega) _).setCell (by simp <;> omega) _).setCell (by simp <;> omega) _⟩
end Go.Proofs.Ytoekhkolakielaa
