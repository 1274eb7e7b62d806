/-
  The program's ledger: NeedOf, LoadOf, CountPeople.
-/
import Derived.Test.YtoekhkolakielaaLedE
import Derived.Test.YtoekhkolakielaaPersL
import Derived.BigGuardPart
namespace Go.Proofs.Ytoekhkolakielaa
open Go.RowKit Pl
set_option linter.unusedSimpArgs false
set_option linter.unusedVariables false

theorem askd_led {h : Hs} {x : Lg} {sh ca fl : Int} (hk : Hs.askd h x sh ca fl = 0) : Hs.led h x = 0 := by
  unfold Hs.askd at hk
  split at hk
  · assumption
  · exact hk
theorem askd_car {h : Hs} {x : Lg} {sh ca fl : Int} (hk : Hs.askd h x sh ca fl = 0) : 0 ≤ sh ∧ sh ≤ 2 ∧ 0 ≤ ca ∧ ca ≤ 1 := by
  unfold Hs.askd at hk
  split at hk
  case isFalse q => exact absurd hk q
  split at hk
  case isFalse => omega
  case isTrue q =>
    have := q.1
    unfold carB at this
    simp only [Bool.and_eq_true, inB_iff] at this
    exact ⟨this.1.1, this.1.2, this.2.1, this.2.2⟩
theorem skip_true {sh ca : Int} {p : Pe} (k1 : isW 1 sh ca p = false) (k0 : isW 0 sh ca p = false) : skipB false sh ca p = true := by
  unfold isW at k1 k0
  unfold skipB act
  cases a : (p.sh == sh) <;> cases b : (p.ca == ca) <;> cases c : (p.st == 0) <;> cases d : (p.st == 1) <;> simp_all [bne]
theorem skip_false {sh ca : Int} {p : Pe} (k1 : isW 1 sh ca p = false) : skipB true sh ca p = true := by
  unfold isW at k1
  unfold skipB act
  cases a : (p.sh == sh) <;> cases b : (p.ca == ca) <;> cases c : (p.st == 0) <;> cases d : (p.st == 1) <;> simp_all [bne]
/-- Numbers are answered: they lie in a row of their own. -/
def isInts (w : World) (k : Int) (l : List Int) (e : Ending) (w' : World) : Prop := ∃ a cap, e = .returned (.agg #[.int .i64 k, .slice a l.length cap]) ∧ OwI w' w.heap.size (.slice a l.length cap) l ∧ Below w.heap.size w w'
def Hs.loadV (h : Hs) (x : Lg) (sh ca : Int) : List Int := if Hs.askd h x sh ca 0 = 0 then riders sh ca x.ps else []
def Hs.cntV (h : Hs) (x : Lg) : List Int := if Hs.led h x = 0 then cnts x.ps else []
theorem led_pers {h : Hs} {x : Lg} (hk : Hs.led h x = 0) : ∀ (i : Nat) (p : Pe), x.ps[i]? = some p → 0 ≤ p.st ∧ p.st ≤ 4 := by
  have hf : Hs.ledC h x = 0 := by
    unfold Hs.led at hk
    by_cases q : h.fault = 0
    · rw [if_pos q] at hk; exact hk
    · rw [if_neg q] at hk; exact absurd hk q
  have h1 : Hs.first h x.nx 0 x.ps = 0 := by
    unfold Hs.ledC at hf
    split at hf
    case isFalse => omega
    split at hf
    case isTrue => omega
    split at hf
    · assumption
    · exact hf
  intro i p hp
  have : ∀ (l : List Pe) (last : Int), Hs.first h x.nx last l = 0 → ∀ (i : Nat) (p : Pe), l[i]? = some p → 0 ≤ p.st ∧ p.st ≤ 4 := by
    intro l
    induction l with
    | nil => intro last _ i p hp; simp at hp
    | cons q l ih =>
      intro last hl i p hp
      unfold Hs.first at hl
      split at hl
      case isFalse z => exact absurd hl z
      case isTrue z =>
        cases i with
        | zero =>
          simp at hp
          subst hp
          exact (pers_parts z).2.2
        | succ i => exact ih _ hl i p (by simpa using hp)
  exact this x.ps 0 h1 i p hp
set_option maxRecDepth 20000 in
set_option maxHeartbeats 16000000 in
theorem implLoadOf_any (h : Hs) (x : Lg) (sh ca : Int) (a : Option Addr) (cap : Nat) (hl : x.ps.length ≤ 1048576) (w : World) (hP : PIn w w.heap.size a x.ps) :
    Calls Try.prog 12 #[.agg #[.int .i64 h.fl, .int .i64 h.gp, .int .i64 h.ln, .int .i64 h.rf, .int .i64 h.sp, .int .i64 h.pu, .int .i64 h.br, .int .i64 h.dr, .int .i64 h.lv, .int .i64 h.dO, .int .i64 h.ld, .int .i64 h.qu], .agg #[.int .i64 x.nx, .slice a x.ps.length cap], .int .i64 sh, .int .i64 ca] w (isInts w (Hs.askd h x sh ca 0) (Hs.loadV h x sh ca)) := by
  have HP : Hid (PIn w w.heap.size a x.ps) := hP
  clear hP
  by_cases hk : (Hs.askd h x sh ca 0) = 0
  · have HV : Hs.loadV h x sh ca = riders sh ca x.ps := if_pos hk
    have CR : ∀ W, PIn W W.heap.size a x.ps → Calls Try.prog 30 #[.slice a x.ps.length cap, .int .i64 sh, .int .i64 ca] W (fun e w' => ∃ ra rc, e = .returned (.slice ra (riders sh ca x.ps).length rc) ∧ OwI w' W.heap.size (.slice ra (riders sh ca x.ps).length rc) (riders sh ca x.ps) ∧ Below W.heap.size W w') := by
      intro W hW
      refine (ridersIn_any x.ps a cap sh ca hl W hW).mono ?_
      rintro e w' ⟨v, rfl, ho, hb⟩
      obtain ⟨ra, rc, rfl⟩ := ho.sl
      exact ⟨ra, rc, rfl, ho, hb⟩
    rw [HV, hk]
    obtain ⟨L, hL⟩ : ∃ L, riders sh ca x.ps = L := ⟨_, rfl⟩
    rw [hL] at CR ⊢
    clear HV hL
    go_enter Try.func12, Try.ntmps12
    go_upto_region 1 with fail
    obtain ⟨W0, hW0⟩ : ∃ W0, W0 = (((w.alloc (.cells #[.int .i64 h.fl, .int .i64 h.gp, .int .i64 h.ln, .int .i64 h.rf, .int .i64 h.sp, .int .i64 h.pu, .int .i64 h.br, .int .i64 h.dr, .int .i64 h.lv, .int .i64 h.dO, .int .i64 h.ld, .int .i64 h.qu] 25)).alloc (.cells #[.int .i64 x.nx, .slice a x.ps.length cap] 28)).alloc (.cells #[.int .i64 0, .slice none 0 0] 38)) := ⟨_, rfl⟩
    have F0 : Hid (HAt W0 w.heap.size h) := by rw [hW0]; exact ((HAt.at_ w h _ _ rfl).alloc _).alloc _
    have F1 : Hid (LW W0 (w.heap.size + 1) x.nx (.slice a x.ps.length cap)) := by rw [hW0]; exact (LW.at_ _ x.nx (.slice a x.ps.length cap) _ _ (by simp)).alloc _
    have F2 : Hid (LW W0 (w.heap.size + 2) 0 (.slice none 0 0)) := by rw [hW0]; exact LW.at_ _ 0 (.slice none 0 0) _ _ (by simp)
    have FB : Hid (Below w.heap.size w W0) := by rw [hW0]; exact (((Below.refl _ _).alloc (Nat.le_refl _) _).alloc (by simp) _).alloc (by simp; omega) _
    rw [← hW0]
    clear hW0
    obtain ⟨x0_0, x0_1, x0_2, x0_3, x0_4, x0_5, x0_6, x0_7, x0_8, x0_9, x0_10, x0_11⟩ := F0.out
    obtain ⟨x1_0, x1_1, y1_0, y1_1⟩ := F1.out
    go_wp2_with (first | (go_at_call 29; refine (askedCarFault_any h x sh ca a cap hl _ ((HP.out.below FB.out (Nat.le_refl _)).mono FB.out.size)).mono ?_; rw [hk]; rintro e w1 ⟨rfl, hb⟩; have F0 : Hid (HAt w1 w.heap.size h) := F0.out.below hb F0.out.lt; have F1 : Hid (LW w1 (w.heap.size + 1) x.nx (.slice a x.ps.length cap)) := F1.out.below hb F1.out.lt; have F2 : Hid (LW w1 (w.heap.size + 2) 0 (.slice none 0 0)) := F2.out.below hb F2.out.lt; have FB : Hid (Below w.heap.size w w1) := FB.out.trans (hb.mono FB.out.size); clear hb; obtain ⟨x0_0, x0_1, x0_2, x0_3, x0_4, x0_5, x0_6, x0_7, x0_8, x0_9, x0_10, x0_11⟩ := F0.out; obtain ⟨x1_0, x1_1, y1_0, y1_1⟩ := F1.out) | (go_at_call 30; refine (CR _ ((HP.out.below FB.out (Nat.le_refl _)).mono FB.out.size)).mono ?_; rintro e w2 ⟨ra, rc, rfl, ho, hb⟩; have lr := F2.out.lt; have FO : Hid (OwI w2 w.heap.size (.slice ra L.length rc) L) := ho.base FB.out.size; have NE : ∀ k, (Value.slice ra L.length rc).ownBlock = some k → k ≠ w.heap.size + 2 := (fun k hk => by have := (ho.lt k hk).1; omega); have F2 : Hid (LW w2 (w.heap.size + 2) 0 (.slice none 0 0)) := F2.out.below hb F2.out.lt; have FB : Hid (Below w.heap.size w w2) := FB.out.trans (hb.mono FB.out.size); clear hb; clear ho; obtain ⟨x2_0, x2_1, y2_0, y2_1⟩ := F2.out))
    exact bodyPost_ret (v := .agg #[.int .i64 0, .slice ra L.length rc]) (by simp [results, Try.results12, go_sem, x2_0, x2_1]) rfl ⟨_, _, rfl, (FO.out.other (p := ⟨w.heap.size + 2, 0, none⟩) (fun e => NE _ e rfl) _).other (p := ⟨w.heap.size + 2, 1, none⟩) (fun e => NE _ e rfl) _, by repeat (first | exact FB.out | (refine Below.setCell ?_ (by simp <;> omega) _))⟩
  · have HV : Hs.loadV h x sh ca = [] := if_neg hk
    rw [HV]
    have hn : ((Hs.askd h x sh ca 0) != 0) = true := by simpa using hk
    clear hk HV
    go_enter Try.func12, Try.ntmps12
    go_upto_region 1 with fail
    obtain ⟨W0, hW0⟩ : ∃ W0, W0 = (((w.alloc (.cells #[.int .i64 h.fl, .int .i64 h.gp, .int .i64 h.ln, .int .i64 h.rf, .int .i64 h.sp, .int .i64 h.pu, .int .i64 h.br, .int .i64 h.dr, .int .i64 h.lv, .int .i64 h.dO, .int .i64 h.ld, .int .i64 h.qu] 25)).alloc (.cells #[.int .i64 x.nx, .slice a x.ps.length cap] 28)).alloc (.cells #[.int .i64 0, .slice none 0 0] 38)) := ⟨_, rfl⟩
    have F0 : Hid (HAt W0 w.heap.size h) := by rw [hW0]; exact ((HAt.at_ w h _ _ rfl).alloc _).alloc _
    have F1 : Hid (LW W0 (w.heap.size + 1) x.nx (.slice a x.ps.length cap)) := by rw [hW0]; exact (LW.at_ _ x.nx (.slice a x.ps.length cap) _ _ (by simp)).alloc _
    have F2 : Hid (LW W0 (w.heap.size + 2) 0 (.slice none 0 0)) := by rw [hW0]; exact LW.at_ _ 0 (.slice none 0 0) _ _ (by simp)
    have FB : Hid (Below w.heap.size w W0) := by rw [hW0]; exact (((Below.refl _ _).alloc (Nat.le_refl _) _).alloc (by simp) _).alloc (by simp; omega) _
    rw [← hW0]
    clear hW0
    obtain ⟨x0_0, x0_1, x0_2, x0_3, x0_4, x0_5, x0_6, x0_7, x0_8, x0_9, x0_10, x0_11⟩ := F0.out
    obtain ⟨x1_0, x1_1, y1_0, y1_1⟩ := F1.out
    go_upto_region 3 with (go_at_call 29; refine (askedCarFault_any h x sh ca a cap hl _ ((HP.out.below FB.out (Nat.le_refl _)).mono FB.out.size)).mono ?_;  rintro e w1 ⟨rfl, hb⟩; have F0 : Hid (HAt w1 w.heap.size h) := F0.out.below hb F0.out.lt; have F1 : Hid (LW w1 (w.heap.size + 1) x.nx (.slice a x.ps.length cap)) := F1.out.below hb F1.out.lt; have F2 : Hid (LW w1 (w.heap.size + 2) 0 (.slice none 0 0)) := F2.out.below hb F2.out.lt; have FB : Hid (Below w.heap.size w w1) := FB.out.trans (hb.mono FB.out.size); clear hb; obtain ⟨x0_0, x0_1, x0_2, x0_3, x0_4, x0_5, x0_6, x0_7, x0_8, x0_9, x0_10, x0_11⟩ := F0.out; obtain ⟨x1_0, x1_1, y1_0, y1_1⟩ := F1.out)
    obtain ⟨x2_0, x2_1, y2_0, y2_1⟩ := F2.out
    go_wp2_with fail
    exact bodyPost_ret (v := .agg #[.int .i64 (Hs.askd h x sh ca 0), .slice none 0 0]) (by simp [results, Try.results12, go_sem, x2_0, x2_1]) rfl ⟨none, 0, rfl, owi_nil _ _, by repeat (first | exact FB.out | (refine Below.setCell ?_ (by simp <;> omega) _))⟩
set_option maxRecDepth 20000 in
set_option maxHeartbeats 16000000 in
theorem implCountPeople_any (h : Hs) (x : Lg) (a : Option Addr) (cap : Nat) (hl : x.ps.length ≤ 1048576) (w : World) (hP : PIn w w.heap.size a x.ps) :
    Calls Try.prog 11 #[.agg #[.int .i64 h.fl, .int .i64 h.gp, .int .i64 h.ln, .int .i64 h.rf, .int .i64 h.sp, .int .i64 h.pu, .int .i64 h.br, .int .i64 h.dr, .int .i64 h.lv, .int .i64 h.dO, .int .i64 h.ld, .int .i64 h.qu], .agg #[.int .i64 x.nx, .slice a x.ps.length cap]] w (isInts w (Hs.led h x) (Hs.cntV h x)) := by
  have HP : Hid (PIn w w.heap.size a x.ps) := hP
  clear hP
  by_cases hk : (Hs.led h x) = 0
  · have HV : Hs.cntV h x = cnts x.ps := if_pos hk
    have CR : ∀ W, PIn W W.heap.size a x.ps → Calls Try.prog 28 #[.slice a x.ps.length cap] W (fun e w' => ∃ ra rc, e = .returned (.slice ra (cnts x.ps).length rc) ∧ OwI w' W.heap.size (.slice ra (cnts x.ps).length rc) (cnts x.ps) ∧ Below W.heap.size W w') := by
      intro W hW
      refine (countStates_any x.ps a cap hl (led_pers hk) W hW).mono ?_
      rintro e w' ⟨g, rfl, ho, hb⟩
      exact ⟨_, 5, rfl, ho, hb⟩
    rw [HV, hk]
    obtain ⟨L, hL⟩ : ∃ L, cnts x.ps = L := ⟨_, rfl⟩
    rw [hL] at CR ⊢
    clear HV hL
    go_enter Try.func11, Try.ntmps11
    go_upto_region 1 with fail
    obtain ⟨W0, hW0⟩ : ∃ W0, W0 = (((w.alloc (.cells #[.int .i64 h.fl, .int .i64 h.gp, .int .i64 h.ln, .int .i64 h.rf, .int .i64 h.sp, .int .i64 h.pu, .int .i64 h.br, .int .i64 h.dr, .int .i64 h.lv, .int .i64 h.dO, .int .i64 h.ld, .int .i64 h.qu] 25)).alloc (.cells #[.int .i64 x.nx, .slice a x.ps.length cap] 28)).alloc (.cells #[.int .i64 0, .slice none 0 0] 38)) := ⟨_, rfl⟩
    have F0 : Hid (HAt W0 w.heap.size h) := by rw [hW0]; exact ((HAt.at_ w h _ _ rfl).alloc _).alloc _
    have F1 : Hid (LW W0 (w.heap.size + 1) x.nx (.slice a x.ps.length cap)) := by rw [hW0]; exact (LW.at_ _ x.nx (.slice a x.ps.length cap) _ _ (by simp)).alloc _
    have F2 : Hid (LW W0 (w.heap.size + 2) 0 (.slice none 0 0)) := by rw [hW0]; exact LW.at_ _ 0 (.slice none 0 0) _ _ (by simp)
    have FB : Hid (Below w.heap.size w W0) := by rw [hW0]; exact (((Below.refl _ _).alloc (Nat.le_refl _) _).alloc (by simp) _).alloc (by simp; omega) _
    rw [← hW0]
    clear hW0
    obtain ⟨x0_0, x0_1, x0_2, x0_3, x0_4, x0_5, x0_6, x0_7, x0_8, x0_9, x0_10, x0_11⟩ := F0.out
    obtain ⟨x1_0, x1_1, y1_0, y1_1⟩ := F1.out
    go_wp2_with (first | (go_at_call 10; refine (implLedgerFault_any h x a cap hl _ ((HP.out.below FB.out (Nat.le_refl _)).mono FB.out.size)).mono ?_; rw [hk]; rintro e w1 ⟨rfl, hb⟩; have F0 : Hid (HAt w1 w.heap.size h) := F0.out.below hb F0.out.lt; have F1 : Hid (LW w1 (w.heap.size + 1) x.nx (.slice a x.ps.length cap)) := F1.out.below hb F1.out.lt; have F2 : Hid (LW w1 (w.heap.size + 2) 0 (.slice none 0 0)) := F2.out.below hb F2.out.lt; have FB : Hid (Below w.heap.size w w1) := FB.out.trans (hb.mono FB.out.size); clear hb; obtain ⟨x0_0, x0_1, x0_2, x0_3, x0_4, x0_5, x0_6, x0_7, x0_8, x0_9, x0_10, x0_11⟩ := F0.out; obtain ⟨x1_0, x1_1, y1_0, y1_1⟩ := F1.out) | (go_at_call 28; refine (CR _ ((HP.out.below FB.out (Nat.le_refl _)).mono FB.out.size)).mono ?_; rintro e w2 ⟨ra, rc, rfl, ho, hb⟩; have lr := F2.out.lt; have FO : Hid (OwI w2 w.heap.size (.slice ra L.length rc) L) := ho.base FB.out.size; have NE : ∀ k, (Value.slice ra L.length rc).ownBlock = some k → k ≠ w.heap.size + 2 := (fun k hk => by have := (ho.lt k hk).1; omega); have F2 : Hid (LW w2 (w.heap.size + 2) 0 (.slice none 0 0)) := F2.out.below hb F2.out.lt; have FB : Hid (Below w.heap.size w w2) := FB.out.trans (hb.mono FB.out.size); clear hb; clear ho; obtain ⟨x2_0, x2_1, y2_0, y2_1⟩ := F2.out))
    exact bodyPost_ret (v := .agg #[.int .i64 0, .slice ra L.length rc]) (by simp [results, Try.results11, go_sem, x2_0, x2_1]) rfl ⟨_, _, rfl, (FO.out.other (p := ⟨w.heap.size + 2, 0, none⟩) (fun e => NE _ e rfl) _).other (p := ⟨w.heap.size + 2, 1, none⟩) (fun e => NE _ e rfl) _, by repeat (first | exact FB.out | (refine Below.setCell ?_ (by simp <;> omega) _))⟩
  · have HV : Hs.cntV h x = [] := if_neg hk
    rw [HV]
    have hn : ((Hs.led h x) != 0) = true := by simpa using hk
    clear hk HV
    go_enter Try.func11, Try.ntmps11
    go_upto_region 1 with fail
    obtain ⟨W0, hW0⟩ : ∃ W0, W0 = (((w.alloc (.cells #[.int .i64 h.fl, .int .i64 h.gp, .int .i64 h.ln, .int .i64 h.rf, .int .i64 h.sp, .int .i64 h.pu, .int .i64 h.br, .int .i64 h.dr, .int .i64 h.lv, .int .i64 h.dO, .int .i64 h.ld, .int .i64 h.qu] 25)).alloc (.cells #[.int .i64 x.nx, .slice a x.ps.length cap] 28)).alloc (.cells #[.int .i64 0, .slice none 0 0] 38)) := ⟨_, rfl⟩
    have F0 : Hid (HAt W0 w.heap.size h) := by rw [hW0]; exact ((HAt.at_ w h _ _ rfl).alloc _).alloc _
    have F1 : Hid (LW W0 (w.heap.size + 1) x.nx (.slice a x.ps.length cap)) := by rw [hW0]; exact (LW.at_ _ x.nx (.slice a x.ps.length cap) _ _ (by simp)).alloc _
    have F2 : Hid (LW W0 (w.heap.size + 2) 0 (.slice none 0 0)) := by rw [hW0]; exact LW.at_ _ 0 (.slice none 0 0) _ _ (by simp)
    have FB : Hid (Below w.heap.size w W0) := by rw [hW0]; exact (((Below.refl _ _).alloc (Nat.le_refl _) _).alloc (by simp) _).alloc (by simp; omega) _
    rw [← hW0]
    clear hW0
    obtain ⟨x0_0, x0_1, x0_2, x0_3, x0_4, x0_5, x0_6, x0_7, x0_8, x0_9, x0_10, x0_11⟩ := F0.out
    obtain ⟨x1_0, x1_1, y1_0, y1_1⟩ := F1.out
    go_upto_region 3 with (go_at_call 10; refine (implLedgerFault_any h x a cap hl _ ((HP.out.below FB.out (Nat.le_refl _)).mono FB.out.size)).mono ?_;  rintro e w1 ⟨rfl, hb⟩; have F0 : Hid (HAt w1 w.heap.size h) := F0.out.below hb F0.out.lt; have F1 : Hid (LW w1 (w.heap.size + 1) x.nx (.slice a x.ps.length cap)) := F1.out.below hb F1.out.lt; have F2 : Hid (LW w1 (w.heap.size + 2) 0 (.slice none 0 0)) := F2.out.below hb F2.out.lt; have FB : Hid (Below w.heap.size w w1) := FB.out.trans (hb.mono FB.out.size); clear hb; obtain ⟨x0_0, x0_1, x0_2, x0_3, x0_4, x0_5, x0_6, x0_7, x0_8, x0_9, x0_10, x0_11⟩ := F0.out; obtain ⟨x1_0, x1_1, y1_0, y1_1⟩ := F1.out)
    obtain ⟨x2_0, x2_1, y2_0, y2_1⟩ := F2.out
    go_wp2_with fail
    exact bodyPost_ret (v := .agg #[.int .i64 (Hs.led h x), .slice none 0 0]) (by simp [results, Try.results11, go_sem, x2_0, x2_1]) rfl ⟨none, 0, rfl, owi_nil _ _, by repeat (first | exact FB.out | (refine Below.setCell ?_ (by simp <;> omega) _))⟩
end Go.Proofs.Ytoekhkolakielaa
