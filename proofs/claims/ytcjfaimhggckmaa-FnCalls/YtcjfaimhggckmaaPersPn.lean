/-
  A ledger copied, people or none; a call put to it (the model).
-/
import Derived.Test.YtcjfaimhggckmaaPersO
import Derived.Test.YtcjfaimhggckmaaPersF
import Derived.BigGuardPart
import Derived.Laws.AppendOwnNone
namespace Go.Proofs.Ytcjfaimhggckmaa
open Go.RowKit Pl
set_option linter.unusedSimpArgs false
set_option linter.unusedVariables false

theorem addV_le (h : Hs) (x : Lg) (f t sh ca : Int) : (Hs.addV h x f t sh ca).ps.length ≤ 1048576 := by
  by_cases hk : Hs.addK h x f t sh ca = 0
  · have hled : Hs.led h x = 0 := by
      unfold Hs.addK at hk
      by_cases q : Hs.led h x = 0
      · exact q
      · rw [if_neg q] at hk; exact hk
    exact addV_len h x f t sh ca (by have := led_len hled; omega)
  · unfold Hs.addV
    rw [if_neg hk]
    simp
theorem putR_own {w : World} {B b : Nat} {u : Value} {l : List Pe} (h : Own w B u l) (hne : ∀ j, u.ownBlock = some j → j ≠ b) (k id nx : Int) (v : Value) : Own ((((w.setCell ⟨b, 0, none⟩ (.int .i64 k)).setCell ⟨b, 1, none⟩ (.int .i64 id)).setCell ⟨b, 2, none⟩ (.int .i64 nx)).setCell ⟨b, 3, none⟩ v) B u l := by
  have e : u.ownBlock ≠ some b := fun e => hne b e rfl
  exact (((h.other (p := ⟨b, 0, none⟩) e _).other (p := ⟨b, 1, none⟩) e _).other (p := ⟨b, 2, none⟩) e _).other (p := ⟨b, 3, none⟩) e _
set_option maxRecDepth 20000 in
set_option maxHeartbeats 16000000 in
theorem l7Copy_nil (nx : Int) (w : World) :
    Calls Try.prog 25 #[.agg #[.int .i64 nx, .slice none 0 0]] w fun e w' => ∃ g, e = .returned (.agg #[.int .i64 nx, .slice (some ⟨g, 0, none⟩) 0 0]) ∧ Ow w' w.heap.size g 0 0 ([] : List Pe) ∧ Below w.heap.size w w' := by
  have F0 : Hid (LW ((w.alloc (.cells #[.int .i64 nx, .slice none 0 0] 28)).alloc (.cells #[.int .i64 0, .slice none 0 0] 28)) w.heap.size nx (.slice none 0 0)) := (LW.at_ w nx (.slice none 0 0) _ _ rfl).alloc _
  have F1 : Hid (LW ((w.alloc (.cells #[.int .i64 nx, .slice none 0 0] 28)).alloc (.cells #[.int .i64 0, .slice none 0 0] 28)) (w.heap.size + 1) 0 (.slice none 0 0)) := LW.at_ _ 0 (.slice none 0 0) _ _ (by simp)
  have FB : Hid (Below w.heap.size w ((w.alloc (.cells #[.int .i64 nx, .slice none 0 0] 28)).alloc (.cells #[.int .i64 0, .slice none 0 0] 28))) := ((Below.refl _ _).alloc (Nat.le_refl _) _).alloc (by simp) _
  obtain ⟨W0, hW0⟩ : ∃ W0, W0 = ((w.alloc (.cells #[.int .i64 nx, .slice none 0 0] 28)).alloc (.cells #[.int .i64 0, .slice none 0 0] 28)) := ⟨_, rfl⟩
  rw [← hW0] at F0 F1 FB
  have HW0 : Hid (W0 = ((w.alloc (.cells #[.int .i64 nx, .slice none 0 0] 28)).alloc (.cells #[.int .i64 0, .slice none 0 0] 28))) := hW0
  have FE : Hid (Own (W0.alloc (.cells #[] 35)) W0.heap.size (.slice (some ⟨W0.heap.size, 0, none⟩) 0 0) []) := own_empty W0 _ (Nat.le_refl _)
  obtain ⟨i0, hi0, hz0, hz1, hz2⟩ := info_parts infoPE
  have hI : Hid (Try.prog.info? 35 = some i0 ∧ i0.zero = some (.agg (cells7 zeroP).toArray) ∧ i0.size = 7 ∧ i0.bytes = 56) := ⟨hi0, hz0, hz1, hz2⟩
  clear hW0 hi0 hz0 hz1 hz2
  go_enter Try.func25, Try.ntmps25
  go_upto_region 1 with fail
  rw [← HW0.out]
  clear HW0
  obtain ⟨x0_0, x0_1, y0_0, y0_1⟩ := F0.out
  have l1 := F1.out.lt
  obtain ⟨z0_0, z0_1, z1_0, z1_1⟩ := F0.out.alloc (.cells #[] 35)
  have l0_ := Nat.ne_of_gt F0.out.lt
  have l0' := Nat.ne_of_lt F0.out.lt
  go_upto_region 2 with (first | (at_builtin; refine wpList_append_own_none rfl _ _ 26 rfl W0.heap.size 35 i0 7 undPS hI.out.1 _ 0 [] rfl FE.out rfl ?_) | fail)
  obtain ⟨g, hg0⟩ : ∃ g, g = W0.heap.size := ⟨_, rfl⟩
  obtain ⟨w1, hw1⟩ : ∃ w1, w1 = W0.alloc (.cells #[] 35) := ⟨_, rfl⟩
  have FO : Hid (Ow w1 W0.heap.size g 0 0 []) := by rw [hw1, hg0]; exact Own.ow FE.out
  have FB : Hid (Below w.heap.size w w1) := by rw [hw1]; exact FB.out.alloc FB.out.size _
  have F0 : Hid (LW w1 w.heap.size nx (.slice none 0 0)) := by rw [hw1]; exact F0.out.alloc _
  have F1 : Hid (LW w1 (w.heap.size + 1) 0 (.slice none 0 0)) := by rw [hw1]; exact F1.out.alloc _
  have hBg : W0.heap.size ≤ g := by omega
  have hle : w.heap.size ≤ W0.heap.size := by omega
  rw [← hw1, ← hg0]
  clear hw1
  obtain ⟨W2, hw_⟩ : ∃ W2, W2 = w1.setCell ⟨w.heap.size, 1, none⟩ (.slice (some ⟨g, 0, none⟩) 0 0) := ⟨_, rfl⟩
  rw [← hw_]
  have F0 : Hid (LW W2 w.heap.size nx (.slice (some ⟨g, 0, none⟩) 0 0)) := by rw [hw_]; exact F0.out.set1 _
  have F1 : Hid (LW W2 (w.heap.size + 1) 0 (.slice none 0 0)) := by rw [hw_]; exact F1.out.other (by omega)
  have FO : Hid (Ow W2 W0.heap.size g 0 0 ([] : List Pe)) := by rw [hw_]; exact FO.out.other (by simp; omega) _
  have FB : Hid (Below w.heap.size w W2) := by rw [hw_]; exact FB.out.setCell (Nat.le_refl _) _
  clear hw_ x0_0 x0_1 y0_0 y0_1 z0_0 z0_1 z1_0 z1_1
  obtain ⟨x0_0, x0_1, y0_0, y0_1⟩ := F0.out
  obtain ⟨x1_0, x1_1, y1_0, y1_1⟩ := F1.out
  go_wp2_with fail
  exact bodyPost_ret (v := .agg #[.int .i64 nx, .slice (some ⟨g, 0, none⟩) 0 0]) (by simp [results, Try.results25, go_sem, x1_0, x1_1]) rfl ⟨g, rfl, ((FO.out.base hle).other (by simp; omega) _).other (by simp; omega) _, (FB.out.setCell (by simp) _).setCell (by simp) _⟩
/-- People that can be copied: none, or a row from a block's start on. -/
def CIn (w : World) (aa : Option Addr) (cap : Nat) (l : List Pe) : Prop := (aa = none ∧ cap = 0 ∧ l = []) ∨ ∃ b, aa = some ⟨b, 0, none⟩ ∧ b < w.heap.size ∧ ∀ i p, l[i]? = some p → P7 w b (0 + i * 7) p
theorem CIn.pin {w : World} {aa : Option Addr} {cap : Nat} {l : List Pe} (h : CIn w aa cap l) : PIn w w.heap.size aa l := by
  rcases h with ⟨_, _, h⟩ | ⟨b, h1, h2, h3⟩
  · exact Or.inl h
  · exact Or.inr ⟨b, 0, h1, h2, h3⟩
theorem CIn.below {W w : World} {aa : Option Addr} {cap : Nat} {l : List Pe} (h : CIn W aa cap l) (hb : Below W.heap.size W w) : CIn w aa cap l := by
  rcases h with h | ⟨b, h1, h2, h3⟩
  · exact Or.inl h
  · exact Or.inr ⟨b, h1, Nat.lt_of_lt_of_le h2 hb.size, fun i p hp => (h3 i p hp).below hb (h3 i p hp).lt⟩
theorem Own.cin {w : World} {B : Nat} {aa : Option Addr} {n cap : Nat} {l : List Pe} (h : Own w B (.slice aa n cap) l) : CIn w aa cap l := by
  rcases h.cases with ⟨e, hl⟩ | ⟨g, cap', e, hB, hg, _⟩
  · injection e with e1 e2 e3
    exact Or.inl ⟨e1, e3, hl⟩
  · have h' := h
    injection e with e1 e2 e3
    subst e1 e2 e3
    exact Or.inr ⟨g, rfl, hg, fun i p hp => by rw [Nat.zero_add]; exact h'.ow.p7 hp⟩
theorem l7Copy_pin (nx : Int) (aa : Option Addr) (cap : Nat) (l : List Pe) (hl : l.length ≤ 1048576) (w : World) (hP : CIn w aa cap l) :
    Calls Try.prog 25 #[.agg #[.int .i64 nx, .slice aa l.length cap]] w fun e w' => ∃ g cap', e = .returned (.agg #[.int .i64 nx, .slice (some ⟨g, 0, none⟩) l.length cap']) ∧ Ow w' w.heap.size g l.length cap' l ∧ Below w.heap.size w w' := by
  rcases hP with ⟨rfl, rfl, rfl⟩ | ⟨b, rfl, hb, h⟩
  · refine (l7Copy_nil nx w).mono ?_
    rintro e w' ⟨g, rfl, h1, h2⟩
    exact ⟨g, 0, rfl, h1, h2⟩
  · exact l7Copy_any nx b 0 cap l hl w h
set_option maxRecDepth 20000 in
set_option maxHeartbeats 16000000 in
theorem specAddCall_pin (h : Hs) (x : Lg) (f t sh ca : Int) (aa : Option Addr) (cap : Nat) (hl : x.ps.length ≤ 1048576) (w : World) (hP : CIn w aa cap x.ps) :
    Calls Try.prog 7 #[.agg #[.int .i64 h.fl, .int .i64 h.gp, .int .i64 h.ln, .int .i64 h.rf, .int .i64 h.sp, .int .i64 h.pu, .int .i64 h.br, .int .i64 h.dr, .int .i64 h.lv, .int .i64 h.dO, .int .i64 h.ld, .int .i64 h.qu], .agg #[.int .i64 x.nx, .slice aa x.ps.length cap], .int .i64 f, .int .i64 t, .int .i64 sh, .int .i64 ca] w (isLed w (Hs.addK h x f t sh ca) (Hs.addI h x f t sh ca) (Hs.addV h x f t sh ca).nx (Hs.addV h x f t sh ca).ps) := by
  have HP : Hid (PIn w w.heap.size aa x.ps) := hP.pin
  have HQ : Hid (CIn w aa cap x.ps) := hP
  clear hP
  obtain ⟨K, hK⟩ : ∃ K, Hs.addK h x f t sh ca = K := ⟨_, rfl⟩
  have e1 : Hs.addI h x f t sh ca = if K = 0 then x.nx else 0 := by unfold Hs.addI; rw [hK]
  have e2 : Hs.addV h x f t sh ca = if K = 0 then ⟨x.nx + 1, freeL x.ps ++ [(⟨x.nx, f, t, sh, ca, 0, 0⟩ : Pe)]⟩ else ⟨0, []⟩ := by unfold Hs.addV; rw [hK]
  rw [hK, e1, e2]
  unfold Hs.addK at hK
  clear e1 e2
  by_cases hled : Hs.led h x = 0
  case neg =>
    rw [if_neg hled] at hK
    subst hK
    rw [if_neg hled, if_neg hled]
    have hn : (Hs.led h x != 0) = true := by simpa using hled
    clear hled
    go_enter Try.func7, Try.ntmps7
    go_upto_region 1 with fail
    obtain ⟨W0, hW0⟩ : ∃ W0, W0 = (((w.alloc (.cells #[.int .i64 h.fl, .int .i64 h.gp, .int .i64 h.ln, .int .i64 h.rf, .int .i64 h.sp, .int .i64 h.pu, .int .i64 h.br, .int .i64 h.dr, .int .i64 h.lv, .int .i64 h.dO, .int .i64 h.ld, .int .i64 h.qu] 25)).alloc (.cells #[.int .i64 x.nx, .slice aa x.ps.length cap] 28)).alloc (.cells #[.int .i64 0, .int .i64 0, .int .i64 0, .slice none 0 0] 32)) := ⟨_, rfl⟩
    have F0 : Hid (HAt W0 w.heap.size h) := by rw [hW0]; exact ((HAt.at_ w h _ _ rfl).alloc _).alloc _
    have F1 : Hid (LW W0 (w.heap.size + 1) x.nx (.slice aa x.ps.length cap)) := by rw [hW0]; exact (LW.at_ _ x.nx (.slice aa x.ps.length cap) _ _ (by simp)).alloc _
    have F2 : Hid (RL W0 (w.heap.size + 2)) := by rw [hW0]; exact RL.at_ _ _ _ (by simp)
    have FB : Hid (Below w.heap.size w W0) := by rw [hW0]; exact (((Below.refl _ _).alloc (Nat.le_refl _) _).alloc (by simp) _).alloc (by simp; omega) _
    rw [← hW0]
    clear hW0
    obtain ⟨x0_0, x0_1, x0_2, x0_3, x0_4, x0_5, x0_6, x0_7, x0_8, x0_9, x0_10, x0_11⟩ := F0.out
    obtain ⟨x1_0, x1_1, y1_0, y1_1⟩ := F1.out
    go_upto_region 3 with (go_at_call 24; refine (specLedgerFault_any h x aa cap hl _ ((HP.out.below FB.out (Nat.le_refl _)).mono FB.out.size)).mono ?_; rintro e w1 ⟨rfl, hb⟩; have F0 : Hid (HAt w1 w.heap.size h) := F0.out.below hb F0.out.lt; have F1 : Hid (LW w1 (w.heap.size + 1) x.nx (.slice aa x.ps.length cap)) := F1.out.below hb F1.out.lt; have F2 : Hid (RL w1 (w.heap.size + 2)) := F2.out.below hb F2.out.lt; have FB : Hid (Below w.heap.size w w1) := FB.out.trans (hb.mono FB.out.size); clear hb; obtain ⟨x0_0, x0_1, x0_2, x0_3, x0_4, x0_5, x0_6, x0_7, x0_8, x0_9, x0_10, x0_11⟩ := F0.out; obtain ⟨x1_0, x1_1, y1_0, y1_1⟩ := F1.out)
    obtain ⟨r0, r1, r2, r3, s0, s1, s2, s3⟩ := F2.out
    go_wp2_with fail
    exact bodyPost_ret (v := .agg #[.int .i64 (Hs.led h x), .int .i64 0, .int .i64 0, .slice none 0 0]) (by simp [results, Try.results7, go_sem, r0, r1, r2, r3]) rfl ⟨_, rfl, own_nil _ _, (((FB.out.setCell (by simp <;> omega) _).setCell (by simp <;> omega) _).setCell (by simp <;> omega) _).setCell (by simp <;> omega) _⟩
  rw [if_pos hled] at hK
  have HC : Hid (Hs.addC h x f t sh ca = K) := hK
  have hlen : x.ps.length ≤ 60 := led_len hled
  have n2 := led_nx hled
  clear hK
  by_cases hk : K = 0
  · subst hk
    rw [if_pos rfl, if_pos rfl]
    go_enter Try.func7, Try.ntmps7
    go_upto_region 1 with fail
    obtain ⟨W0, hW0⟩ : ∃ W0, W0 = (((w.alloc (.cells #[.int .i64 h.fl, .int .i64 h.gp, .int .i64 h.ln, .int .i64 h.rf, .int .i64 h.sp, .int .i64 h.pu, .int .i64 h.br, .int .i64 h.dr, .int .i64 h.lv, .int .i64 h.dO, .int .i64 h.ld, .int .i64 h.qu] 25)).alloc (.cells #[.int .i64 x.nx, .slice aa x.ps.length cap] 28)).alloc (.cells #[.int .i64 0, .int .i64 0, .int .i64 0, .slice none 0 0] 32)) := ⟨_, rfl⟩
    have F0 : Hid (HAt W0 w.heap.size h) := by rw [hW0]; exact ((HAt.at_ w h _ _ rfl).alloc _).alloc _
    have F1 : Hid (LW W0 (w.heap.size + 1) x.nx (.slice aa x.ps.length cap)) := by rw [hW0]; exact (LW.at_ _ x.nx (.slice aa x.ps.length cap) _ _ (by simp)).alloc _
    have F2 : Hid (RL W0 (w.heap.size + 2)) := by rw [hW0]; exact RL.at_ _ _ _ (by simp)
    have FB : Hid (Below w.heap.size w W0) := by rw [hW0]; exact (((Below.refl _ _).alloc (Nat.le_refl _) _).alloc (by simp) _).alloc (by simp; omega) _
    rw [← hW0]
    clear hW0
    obtain ⟨x0_0, x0_1, x0_2, x0_3, x0_4, x0_5, x0_6, x0_7, x0_8, x0_9, x0_10, x0_11⟩ := F0.out
    obtain ⟨x1_0, x1_1, y1_0, y1_1⟩ := F1.out
    go_upto_region 5 with (first | (go_at_call 24; refine (specLedgerFault_any h x aa cap hl _ ((HP.out.below FB.out (Nat.le_refl _)).mono FB.out.size)).mono ?_; rw [hled]; rintro e w1 ⟨rfl, hb⟩; have F0 : Hid (HAt w1 w.heap.size h) := F0.out.below hb F0.out.lt; have F1 : Hid (LW w1 (w.heap.size + 1) x.nx (.slice aa x.ps.length cap)) := F1.out.below hb F1.out.lt; have F2 : Hid (RL w1 (w.heap.size + 2)) := F2.out.below hb F2.out.lt; have FB : Hid (Below w.heap.size w w1) := FB.out.trans (hb.mono FB.out.size); clear hb; obtain ⟨x0_0, x0_1, x0_2, x0_3, x0_4, x0_5, x0_6, x0_7, x0_8, x0_9, x0_10, x0_11⟩ := F0.out; obtain ⟨x1_0, x1_1, y1_0, y1_1⟩ := F1.out) | (go_at_call 25; refine (l7Copy_pin x.nx aa cap x.ps hl _ (HQ.out.below FB.out)).mono ?_; rintro e w2 ⟨g, cap', rfl, ho, hb⟩; have lr := F2.out.lt; have lg1 := ho.bl.1; have FO : Hid (Ow w2 w1.heap.size g x.ps.length cap' x.ps) := ho; clear ho; have F0 : Hid (HAt w2 w.heap.size h) := F0.out.below hb F0.out.lt; have F1 : Hid (LW w2 (w.heap.size + 1) x.nx (.slice aa x.ps.length cap)) := F1.out.below hb F1.out.lt; have F2 : Hid (RL w2 (w.heap.size + 2)) := F2.out.below hb F2.out.lt; have FB : Hid (Below w.heap.size w w2) := FB.out.trans (hb.mono FB.out.size); clear hb; obtain ⟨x0_0, x0_1, x0_2, x0_3, x0_4, x0_5, x0_6, x0_7, x0_8, x0_9, x0_10, x0_11⟩ := F0.out; obtain ⟨x1_0, x1_1, y1_0, y1_1⟩ := F1.out))
    obtain ⟨ob, hob⟩ : ∃ ob, ob = w2.heap.size := ⟨_, rfl⟩
    have lob : g < ob := by rw [hob]; exact FO.out.bl.2
    obtain ⟨w3, hw3⟩ : ∃ w3, w3 = w2.alloc (.cells #[.int .i64 x.nx, .slice (some ⟨g, 0, none⟩) x.ps.length cap'] 28) := ⟨_, rfl⟩
    have F0 : Hid (HAt w3 w.heap.size h) := by rw [hw3]; exact F0.out.alloc _
    have F1 : Hid (LW w3 (w.heap.size + 1) x.nx (.slice aa x.ps.length cap)) := by rw [hw3]; exact F1.out.alloc _
    have F2 : Hid (RL w3 (w.heap.size + 2)) := by rw [hw3]; exact F2.out.alloc _
    have FB : Hid (Below w.heap.size w w3) := by rw [hw3]; exact FB.out.alloc FB.out.size _
    have FO : Hid (Ow w3 w1.heap.size g x.ps.length cap' x.ps) := by rw [hw3]; exact FO.out.alloc _
    have F3 : Hid (LW w3 ob x.nx (.slice (some ⟨g, 0, none⟩) x.ps.length cap')) := by rw [hw3]; exact LW.at_ w2 x.nx _ _ _ hob
    rw [← hw3]
    clear hw3
    rw [← hob]
    clear hob x0_0 x0_1 x0_2 x0_3 x0_4 x0_5 x0_6 x0_7 x0_8 x0_9 x0_10 x0_11 x1_0 x1_1 y1_0 y1_1
    obtain ⟨x0_0, x0_1, x0_2, x0_3, x0_4, x0_5, x0_6, x0_7, x0_8, x0_9, x0_10, x0_11⟩ := F0.out
    have ls1 : w1.heap.size ≤ w3.heap.size := by have := F3.out.lt; omega
    go_upto_region 8 with (go_at_call 26; refine (l7Add_row h ob w1.heap.size g cap' x.ps x.nx f t sh ca (by omega) (by omega) hlen (by omega) _ (by omega) F3.out FO.out).mono ?_; rw [show addPost h ob w1.heap.size x.nx x.ps f t sh ca _ = _ from rfl]; unfold addPost; rw [show Hs.addC h ⟨x.nx, x.ps⟩ f t sh ca = 0 from HC.out]; rintro e w4 ⟨rfl, v', hLv, hOv, hnv, hg⟩; have F1 : Hid (LW w4 (w.heap.size + 1) x.nx (.slice aa x.ps.length cap)) := F1.out.grown hg (fun e => by have e2 := Option.some.inj e; omega); have F2 : Hid (RL w4 (w.heap.size + 2)) := F2.out.grown hg (fun e => by have e2 := Option.some.inj e; omega); have FB : Hid (Below w.heap.size w w4) := FB.out.grown hg FB.out.size (fun j hj => by have e2 := Option.some.inj hj; omega); rw [if_pos rfl] at hLv hOv; obtain ⟨ra, rc, rfl, -⟩ := hOv.pin; have FV : Hid (LW w4 ob (x.nx + 1) (.slice ra (freeL x.ps ++ [(⟨x.nx, f, t, sh, ca, 0, 0⟩ : Pe)]).length rc)) := hLv; have FW : Hid (Own w4 w1.heap.size (.slice ra (freeL x.ps ++ [(⟨x.nx, f, t, sh, ca, 0, 0⟩ : Pe)]).length rc) (freeL x.ps ++ [(⟨x.nx, f, t, sh, ca, 0, 0⟩ : Pe)])) := hOv; clear hLv hOv hnv hg)
    obtain ⟨R, hR⟩ : ∃ R, freeL x.ps ++ [(⟨x.nx, f, t, sh, ca, 0, 0⟩ : Pe)] = R := ⟨_, rfl⟩
    rw [hR] at FV FW
    have HRR : Hid (freeL x.ps ++ [(⟨x.nx, f, t, sh, ca, 0, 0⟩ : Pe)] = R) := hR
    clear hR
    obtain ⟨x1_0, x1_1, y1_0, y1_1⟩ := F1.out
    obtain ⟨o0, o1, o2, o3⟩ := FV.out
    obtain ⟨r0, r1, r2, r3, s0, s1, s2, s3⟩ := F2.out
    go_wp2_with fail
    exact bodyPost_ret (v := .agg #[.int .i64 0, .int .i64 x.nx, .int .i64 (x.nx + 1), .slice ra R.length rc]) (by simp [results, Try.results7, go_sem, r0, r1, r2, r3]) rfl ⟨.slice ra R.length rc, rfl, (by rw [HRR.out]; exact putR_own (b := w.heap.size + 2) (FW.out.base (show w.heap.size ≤ w1.heap.size by omega)) (fun k hk => by have := (FW.out.lt k hk).1; omega) 0 x.nx (x.nx + 1) _), (((FB.out.setCell (by simp <;> omega) _).setCell (by simp <;> omega) _).setCell (by simp <;> omega) _).setCell (by simp <;> omega) _⟩
  · have hn : (K != 0) = true := by simpa using hk
    rw [if_neg hk, if_neg hk]
    have HKZ : Hid (¬ K = 0) := hk
    clear hk
    go_enter Try.func7, Try.ntmps7
    go_upto_region 1 with fail
    obtain ⟨W0, hW0⟩ : ∃ W0, W0 = (((w.alloc (.cells #[.int .i64 h.fl, .int .i64 h.gp, .int .i64 h.ln, .int .i64 h.rf, .int .i64 h.sp, .int .i64 h.pu, .int .i64 h.br, .int .i64 h.dr, .int .i64 h.lv, .int .i64 h.dO, .int .i64 h.ld, .int .i64 h.qu] 25)).alloc (.cells #[.int .i64 x.nx, .slice aa x.ps.length cap] 28)).alloc (.cells #[.int .i64 0, .int .i64 0, .int .i64 0, .slice none 0 0] 32)) := ⟨_, rfl⟩
    have F0 : Hid (HAt W0 w.heap.size h) := by rw [hW0]; exact ((HAt.at_ w h _ _ rfl).alloc _).alloc _
    have F1 : Hid (LW W0 (w.heap.size + 1) x.nx (.slice aa x.ps.length cap)) := by rw [hW0]; exact (LW.at_ _ x.nx (.slice aa x.ps.length cap) _ _ (by simp)).alloc _
    have F2 : Hid (RL W0 (w.heap.size + 2)) := by rw [hW0]; exact RL.at_ _ _ _ (by simp)
    have FB : Hid (Below w.heap.size w W0) := by rw [hW0]; exact (((Below.refl _ _).alloc (Nat.le_refl _) _).alloc (by simp) _).alloc (by simp; omega) _
    rw [← hW0]
    clear hW0
    obtain ⟨x0_0, x0_1, x0_2, x0_3, x0_4, x0_5, x0_6, x0_7, x0_8, x0_9, x0_10, x0_11⟩ := F0.out
    obtain ⟨x1_0, x1_1, y1_0, y1_1⟩ := F1.out
    go_upto_region 5 with (first | (go_at_call 24; refine (specLedgerFault_any h x aa cap hl _ ((HP.out.below FB.out (Nat.le_refl _)).mono FB.out.size)).mono ?_; rw [hled]; rintro e w1 ⟨rfl, hb⟩; have F0 : Hid (HAt w1 w.heap.size h) := F0.out.below hb F0.out.lt; have F1 : Hid (LW w1 (w.heap.size + 1) x.nx (.slice aa x.ps.length cap)) := F1.out.below hb F1.out.lt; have F2 : Hid (RL w1 (w.heap.size + 2)) := F2.out.below hb F2.out.lt; have FB : Hid (Below w.heap.size w w1) := FB.out.trans (hb.mono FB.out.size); clear hb; obtain ⟨x0_0, x0_1, x0_2, x0_3, x0_4, x0_5, x0_6, x0_7, x0_8, x0_9, x0_10, x0_11⟩ := F0.out; obtain ⟨x1_0, x1_1, y1_0, y1_1⟩ := F1.out) | (go_at_call 25; refine (l7Copy_pin x.nx aa cap x.ps hl _ (HQ.out.below FB.out)).mono ?_; rintro e w2 ⟨g, cap', rfl, ho, hb⟩; have lr := F2.out.lt; have lg1 := ho.bl.1; have FO : Hid (Ow w2 w1.heap.size g x.ps.length cap' x.ps) := ho; clear ho; have F0 : Hid (HAt w2 w.heap.size h) := F0.out.below hb F0.out.lt; have F1 : Hid (LW w2 (w.heap.size + 1) x.nx (.slice aa x.ps.length cap)) := F1.out.below hb F1.out.lt; have F2 : Hid (RL w2 (w.heap.size + 2)) := F2.out.below hb F2.out.lt; have FB : Hid (Below w.heap.size w w2) := FB.out.trans (hb.mono FB.out.size); clear hb; obtain ⟨x0_0, x0_1, x0_2, x0_3, x0_4, x0_5, x0_6, x0_7, x0_8, x0_9, x0_10, x0_11⟩ := F0.out; obtain ⟨x1_0, x1_1, y1_0, y1_1⟩ := F1.out))
    obtain ⟨ob, hob⟩ : ∃ ob, ob = w2.heap.size := ⟨_, rfl⟩
    have lob : g < ob := by rw [hob]; exact FO.out.bl.2
    obtain ⟨w3, hw3⟩ : ∃ w3, w3 = w2.alloc (.cells #[.int .i64 x.nx, .slice (some ⟨g, 0, none⟩) x.ps.length cap'] 28) := ⟨_, rfl⟩
    have F0 : Hid (HAt w3 w.heap.size h) := by rw [hw3]; exact F0.out.alloc _
    have F1 : Hid (LW w3 (w.heap.size + 1) x.nx (.slice aa x.ps.length cap)) := by rw [hw3]; exact F1.out.alloc _
    have F2 : Hid (RL w3 (w.heap.size + 2)) := by rw [hw3]; exact F2.out.alloc _
    have FB : Hid (Below w.heap.size w w3) := by rw [hw3]; exact FB.out.alloc FB.out.size _
    have FO : Hid (Ow w3 w1.heap.size g x.ps.length cap' x.ps) := by rw [hw3]; exact FO.out.alloc _
    have F3 : Hid (LW w3 ob x.nx (.slice (some ⟨g, 0, none⟩) x.ps.length cap')) := by rw [hw3]; exact LW.at_ w2 x.nx _ _ _ hob
    rw [← hw3]
    clear hw3
    rw [← hob]
    clear hob x0_0 x0_1 x0_2 x0_3 x0_4 x0_5 x0_6 x0_7 x0_8 x0_9 x0_10 x0_11 x1_0 x1_1 y1_0 y1_1
    obtain ⟨x0_0, x0_1, x0_2, x0_3, x0_4, x0_5, x0_6, x0_7, x0_8, x0_9, x0_10, x0_11⟩ := F0.out
    have ls1 : w1.heap.size ≤ w3.heap.size := by have := F3.out.lt; omega
    go_upto_region 7 with (go_at_call 26; refine (l7Add_row h ob w1.heap.size g cap' x.ps x.nx f t sh ca (by omega) (by omega) hlen (by omega) _ (by omega) F3.out FO.out).mono ?_; rw [show addPost h ob w1.heap.size x.nx x.ps f t sh ca _ = _ from rfl]; unfold addPost; rw [show Hs.addC h ⟨x.nx, x.ps⟩ f t sh ca = K from HC.out]; rintro e w4 ⟨rfl, v', hLv, hOv, hnv, hg⟩; have F1 : Hid (LW w4 (w.heap.size + 1) x.nx (.slice aa x.ps.length cap)) := F1.out.grown hg (fun e => by have e2 := Option.some.inj e; omega); have F2 : Hid (RL w4 (w.heap.size + 2)) := F2.out.grown hg (fun e => by have e2 := Option.some.inj e; omega); have FB : Hid (Below w.heap.size w w4) := FB.out.grown hg FB.out.size (fun j hj => by have e2 := Option.some.inj hj; omega); clear hLv hOv hnv hg)
    obtain ⟨r0, r1, r2, r3, s0, s1, s2, s3⟩ := F2.out
    go_wp2_with fail
    exact bodyPost_ret (v := .agg #[.int .i64 K, .int .i64 0, .int .i64 0, .slice none 0 0]) (by simp [results, Try.results7, go_sem, r0, r1, r2, r3]) rfl ⟨_, rfl, own_nil _ _, (((FB.out.setCell (by simp <;> omega) _).setCell (by simp <;> omega) _).setCell (by simp <;> omega) _).setCell (by simp <;> omega) _⟩
end Go.Proofs.Ytcjfaimhggckmaa
