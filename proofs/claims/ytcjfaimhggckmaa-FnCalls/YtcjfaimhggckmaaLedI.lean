/-
  The program's ledger: DropWaiting, AlightAt, LetOut, BoardAt.
-/
import Derived.Test.YtcjfaimhggckmaaLedE
import Derived.Test.YtcjfaimhggckmaaLedH
import Derived.BigGuardPart
namespace Go.Proofs.Ytcjfaimhggckmaa
open Go.RowKit Pl
set_option linter.unusedSimpArgs false
set_option linter.unusedVariables false

theorem askd_led {h : Hs} {x : Lg} {sh ca fl : Int} (hk : Hs.askd h x sh ca fl = 0) : Hs.led h x = 0 := by
  unfold Hs.askd at hk
  split at hk
  · assumption
  · exact hk
theorem askd_car {h : Hs} {x : Lg} {sh ca fl : Int} (hk : Hs.askd h x sh ca fl = 0) : 0 ≤ sh ∧ sh ≤ 2 ∧ 0 ≤ ca ∧ ca ≤ 1 := by
  unfold Hs.askd at hk
  split at hk
  case isFalse q => exact absurd hk q
  split at hk
  case isFalse => omega
  case isTrue q =>
    have := q.1
    unfold carB at this
    simp only [Bool.and_eq_true, inB_iff] at this
    exact ⟨this.1.1, this.1.2, this.2.1, this.2.2⟩
set_option maxRecDepth 20000 in
set_option maxHeartbeats 16000000 in
theorem implDropWaiting_any (h : Hs) (x : Lg) (b o cap : Nat) (hl : x.ps.length ≤ 1048576) (w : World) (hb : b < w.heap.size) (hP : ∀ i p, x.ps[i]? = some p → P7 w b (o + i * 7) p) :
    Calls Try.prog 8 #[.agg #[.int .i64 h.fl, .int .i64 h.gp, .int .i64 h.ln, .int .i64 h.rf, .int .i64 h.sp, .int .i64 h.pu, .int .i64 h.br, .int .i64 h.dr, .int .i64 h.lv, .int .i64 h.dO, .int .i64 h.ld, .int .i64 h.qu], .agg #[.int .i64 x.nx, .slice (some ⟨b, o, none⟩) x.ps.length cap]] w (isLed w (Hs.led h x) 0 (Hs.dropV h x).nx (Hs.dropV h x).ps) := by
  unfold Hs.dropV
  have HP : Hid (PIn w w.heap.size (some ⟨b, o, none⟩) x.ps) := Or.inr ⟨b, o, rfl, hb, hP⟩
  clear hP hb
  by_cases hk : (Hs.led h x) = 0
  · rw [if_pos hk, hk]
    go_enter Try.func8, Try.ntmps8
    go_upto_region 1 with fail
    obtain ⟨W0, hW0⟩ : ∃ W0, W0 = (((w.alloc (.cells #[.int .i64 h.fl, .int .i64 h.gp, .int .i64 h.ln, .int .i64 h.rf, .int .i64 h.sp, .int .i64 h.pu, .int .i64 h.br, .int .i64 h.dr, .int .i64 h.lv, .int .i64 h.dO, .int .i64 h.ld, .int .i64 h.qu] 25)).alloc (.cells #[.int .i64 x.nx, .slice (some ⟨b, o, none⟩) x.ps.length cap] 28)).alloc (.cells #[.int .i64 0, .int .i64 0, .int .i64 0, .slice none 0 0] 32)) := ⟨_, rfl⟩
    have F0 : Hid (HAt W0 w.heap.size h) := by rw [hW0]; exact ((HAt.at_ w h _ _ rfl).alloc _).alloc _
    have F1 : Hid (LW W0 (w.heap.size + 1) x.nx (.slice (some ⟨b, o, none⟩) x.ps.length cap)) := by rw [hW0]; exact (LW.at_ _ x.nx (.slice (some ⟨b, o, none⟩) x.ps.length cap) _ _ (by simp)).alloc _
    have FR : Hid (RL W0 (w.heap.size + 2)) := by rw [hW0]; exact RL.at_ _ _ _ (by simp)
    have FB : Hid (Below w.heap.size w W0) := by rw [hW0]; exact (((Below.refl _ _).alloc (Nat.le_refl _) _).alloc (by simp) _).alloc (by simp; omega) _
    have HP : Hid (PIn W0 w.heap.size (some ⟨b, o, none⟩) x.ps) := HP.out.below FB.out (Nat.le_refl _)
    rw [← hW0]
    clear hW0
    obtain ⟨x0_0, x0_1, x0_2, x0_3, x0_4, x0_5, x0_6, x0_7, x0_8, x0_9, x0_10, x0_11⟩ := F0.out
    obtain ⟨x1_0, x1_1, y1_0, y1_1⟩ := F1.out
    go_wp2_with (first | (go_at_call 9; refine (implLedgerFault_any h x (some ⟨b, o, none⟩) cap hl _ (HP.out.mono FB.out.size)).mono ?_; rw [hk]; rintro e w1 ⟨rfl, hb⟩; have F0 : Hid (HAt w1 w.heap.size h) := F0.out.below hb F0.out.lt; have F1 : Hid (LW w1 (w.heap.size + 1) x.nx (.slice (some ⟨b, o, none⟩) x.ps.length cap)) := F1.out.below hb F1.out.lt; have FR : Hid (RL w1 (w.heap.size + 2)) := FR.out.below hb FR.out.lt; have HP : Hid (PIn w1 w.heap.size (some ⟨b, o, none⟩) x.ps) := HP.out.below (hb.mono FB.out.size) (Nat.le_refl _); have FB : Hid (Below w.heap.size w w1) := FB.out.trans (hb.mono FB.out.size); clear hb; obtain ⟨x0_0, x0_1, x0_2, x0_3, x0_4, x0_5, x0_6, x0_7, x0_8, x0_9, x0_10, x0_11⟩ := F0.out; obtain ⟨x1_0, x1_1, y1_0, y1_1⟩ := F1.out) | (go_at_call 27; refine (changed_drop x (some ⟨b, o, none⟩) cap hl _ (HP.out.mono FB.out.size)).mono ?_; rintro e w2 ⟨v, rfl, ho, hb⟩; have lr := FR.out.lt; obtain ⟨ra, rc, rfl, -⟩ := ho.pin; have FO : Hid (Own w2 w.heap.size _ _) := ho.base FB.out.size; have NE : ∀ k, (Value.slice ra _ rc).ownBlock = some k → k ≠ w.heap.size + 2 := (fun k hk => by have := (ho.lt k hk).1; omega); have FR : Hid (RL w2 (w.heap.size + 2)) := FR.out.below hb FR.out.lt; have FB : Hid (Below w.heap.size w w2) := FB.out.trans (hb.mono FB.out.size); clear hb ho; obtain ⟨r0, r1, r2, r3, s0, s1, s2, s3⟩ := FR.out))
    exact bodyPost_ret (v := .agg #[.int .i64 0, .int .i64 0, .int .i64 x.nx, .slice ra _ rc]) (by simp [results, Try.results8, go_sem, r0, r1, r2, r3]) rfl ⟨_, rfl, FO.out.putR NE 0 0 x.nx _, (((FB.out.setCell (by simp <;> omega) _).setCell (by simp <;> omega) _).setCell (by simp <;> omega) _).setCell (by simp <;> omega) _⟩
  · rw [if_neg hk]
    have hn : ((Hs.led h x) != 0) = true := by simpa using hk
    clear hk
    go_enter Try.func8, Try.ntmps8
    go_upto_region 1 with fail
    obtain ⟨W0, hW0⟩ : ∃ W0, W0 = (((w.alloc (.cells #[.int .i64 h.fl, .int .i64 h.gp, .int .i64 h.ln, .int .i64 h.rf, .int .i64 h.sp, .int .i64 h.pu, .int .i64 h.br, .int .i64 h.dr, .int .i64 h.lv, .int .i64 h.dO, .int .i64 h.ld, .int .i64 h.qu] 25)).alloc (.cells #[.int .i64 x.nx, .slice (some ⟨b, o, none⟩) x.ps.length cap] 28)).alloc (.cells #[.int .i64 0, .int .i64 0, .int .i64 0, .slice none 0 0] 32)) := ⟨_, rfl⟩
    have F0 : Hid (HAt W0 w.heap.size h) := by rw [hW0]; exact ((HAt.at_ w h _ _ rfl).alloc _).alloc _
    have F1 : Hid (LW W0 (w.heap.size + 1) x.nx (.slice (some ⟨b, o, none⟩) x.ps.length cap)) := by rw [hW0]; exact (LW.at_ _ x.nx (.slice (some ⟨b, o, none⟩) x.ps.length cap) _ _ (by simp)).alloc _
    have FR : Hid (RL W0 (w.heap.size + 2)) := by rw [hW0]; exact RL.at_ _ _ _ (by simp)
    have FB : Hid (Below w.heap.size w W0) := by rw [hW0]; exact (((Below.refl _ _).alloc (Nat.le_refl _) _).alloc (by simp) _).alloc (by simp; omega) _
    have HP : Hid (PIn W0 w.heap.size (some ⟨b, o, none⟩) x.ps) := HP.out.below FB.out (Nat.le_refl _)
    rw [← hW0]
    clear hW0
    obtain ⟨x0_0, x0_1, x0_2, x0_3, x0_4, x0_5, x0_6, x0_7, x0_8, x0_9, x0_10, x0_11⟩ := F0.out
    obtain ⟨x1_0, x1_1, y1_0, y1_1⟩ := F1.out
    go_upto_region 3 with (go_at_call 9; refine (implLedgerFault_any h x (some ⟨b, o, none⟩) cap hl _ (HP.out.mono FB.out.size)).mono ?_;  rintro e w1 ⟨rfl, hb⟩; have F0 : Hid (HAt w1 w.heap.size h) := F0.out.below hb F0.out.lt; have F1 : Hid (LW w1 (w.heap.size + 1) x.nx (.slice (some ⟨b, o, none⟩) x.ps.length cap)) := F1.out.below hb F1.out.lt; have FR : Hid (RL w1 (w.heap.size + 2)) := FR.out.below hb FR.out.lt; have HP : Hid (PIn w1 w.heap.size (some ⟨b, o, none⟩) x.ps) := HP.out.below (hb.mono FB.out.size) (Nat.le_refl _); have FB : Hid (Below w.heap.size w w1) := FB.out.trans (hb.mono FB.out.size); clear hb; obtain ⟨x0_0, x0_1, x0_2, x0_3, x0_4, x0_5, x0_6, x0_7, x0_8, x0_9, x0_10, x0_11⟩ := F0.out; obtain ⟨x1_0, x1_1, y1_0, y1_1⟩ := F1.out)
    obtain ⟨r0, r1, r2, r3, s0, s1, s2, s3⟩ := FR.out
    go_wp2_with fail
    exact bodyPost_ret (v := .agg #[.int .i64 (Hs.led h x), .int .i64 0, .int .i64 0, .slice none 0 0]) (by simp [results, Try.results8, go_sem, r0, r1, r2, r3]) rfl ⟨_, rfl, own_nil _ _, (((FB.out.setCell (by simp <;> omega) _).setCell (by simp <;> omega) _).setCell (by simp <;> omega) _).setCell (by simp <;> omega) _⟩
end Go.Proofs.Ytcjfaimhggckmaa
