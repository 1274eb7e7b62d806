/-
  What the program and the model answer to who boards, alights and is let out: contracts for FnPeople.
-/
import Derived.Test.YtoekhkolakielaaPeoP
import Derived.Test.YtoekhkolakielaaLedIn
import Derived.Test.YtoekhkolakielaaLedE
import Derived.BigGuardPart
namespace Go.Proofs.Ytoekhkolakielaa
open Go.RowKit Pl
set_option linter.unusedSimpArgs false
set_option linter.unusedVariables false

set_option maxRecDepth 20000 in
set_option maxHeartbeats 16000000 in
theorem specBoard_no (h : Hs) (x : Lg) (sh ca fl : Int) (aa : Option Addr) (cap : Nat) (hl : x.ps.length ≤ 1048576) (hk : ¬ Hs.askd h x sh ca fl = 0) (w : World) (hP : PIn w w.heap.size aa x.ps) :
    Calls Try.prog 7 #[.agg #[.int .i64 h.fl, .int .i64 h.gp, .int .i64 h.ln, .int .i64 h.rf, .int .i64 h.sp, .int .i64 h.pu, .int .i64 h.br, .int .i64 h.dr, .int .i64 h.lv, .int .i64 h.dO, .int .i64 h.ld, .int .i64 h.qu], .agg #[.int .i64 x.nx, .slice aa x.ps.length cap], .int .i64 sh, .int .i64 ca, .int .i64 fl] w (isLed w (Hs.askd h x sh ca fl) 0 (Hs.boardV h x sh ca fl).nx (Hs.boardV h x sh ca fl).ps) := by
  unfold Hs.boardV
  have HP : Hid (PIn w w.heap.size aa x.ps) := hP
  have F0 : Hid (HAt (((w.alloc (.cells #[.int .i64 h.fl, .int .i64 h.gp, .int .i64 h.ln, .int .i64 h.rf, .int .i64 h.sp, .int .i64 h.pu, .int .i64 h.br, .int .i64 h.dr, .int .i64 h.lv, .int .i64 h.dO, .int .i64 h.ld, .int .i64 h.qu] 25)).alloc (.cells #[.int .i64 x.nx, .slice aa x.ps.length cap] 28)).alloc (.cells #[.int .i64 0, .int .i64 0, .int .i64 0, .slice none 0 0] 32)) w.heap.size h) := ((HAt.new w h _).below ((Below.refl _ _).alloc (Nat.le_refl _) _) (by simp)).below ((Below.refl _ _).alloc (Nat.le_refl _) _) (by simp; omega)
  have F1 : Hid (LW (((w.alloc (.cells #[.int .i64 h.fl, .int .i64 h.gp, .int .i64 h.ln, .int .i64 h.rf, .int .i64 h.sp, .int .i64 h.pu, .int .i64 h.br, .int .i64 h.dr, .int .i64 h.lv, .int .i64 h.dO, .int .i64 h.ld, .int .i64 h.qu] 25)).alloc (.cells #[.int .i64 x.nx, .slice aa x.ps.length cap] 28)).alloc (.cells #[.int .i64 0, .int .i64 0, .int .i64 0, .slice none 0 0] 32)) (w.heap.size + 1) x.nx (.slice aa x.ps.length cap)) := (LW.at_ _ x.nx (.slice aa x.ps.length cap) _ _ (by simp)).alloc _
  have F2 : Hid (RL (((w.alloc (.cells #[.int .i64 h.fl, .int .i64 h.gp, .int .i64 h.ln, .int .i64 h.rf, .int .i64 h.sp, .int .i64 h.pu, .int .i64 h.br, .int .i64 h.dr, .int .i64 h.lv, .int .i64 h.dO, .int .i64 h.ld, .int .i64 h.qu] 25)).alloc (.cells #[.int .i64 x.nx, .slice aa x.ps.length cap] 28)).alloc (.cells #[.int .i64 0, .int .i64 0, .int .i64 0, .slice none 0 0] 32)) (w.heap.size + 2)) := RL.at_ _ _ _ (by simp)
  have FB : Hid (Below w.heap.size w (((w.alloc (.cells #[.int .i64 h.fl, .int .i64 h.gp, .int .i64 h.ln, .int .i64 h.rf, .int .i64 h.sp, .int .i64 h.pu, .int .i64 h.br, .int .i64 h.dr, .int .i64 h.lv, .int .i64 h.dO, .int .i64 h.ld, .int .i64 h.qu] 25)).alloc (.cells #[.int .i64 x.nx, .slice aa x.ps.length cap] 28)).alloc (.cells #[.int .i64 0, .int .i64 0, .int .i64 0, .slice none 0 0] 32))) := (((Below.refl _ _).alloc (Nat.le_refl _) _).alloc (by simp) _).alloc (by simp; omega) _
  clear hP
  rw [if_neg hk]
  have hn : ((Hs.askd h x sh ca fl) != 0) = true := by simpa using hk
  clear hk
  go_enter Try.func7, Try.ntmps7
  go_wp2_with (go_at_call 19; refine (l7Asked_any h x sh ca fl aa cap hl _ ((HP.out.below FB.out (Nat.le_refl _)).mono FB.out.size)).mono ?_; rintro e w1 ⟨rfl, hb⟩; have F0 : Hid (HAt w1 w.heap.size h) := F0.out.below hb F0.out.lt; have F1 : Hid (LW w1 (w.heap.size + 1) x.nx (.slice aa x.ps.length cap)) := F1.out.below hb F1.out.lt; have F2 : Hid (RL w1 (w.heap.size + 2)) := F2.out.below hb F2.out.lt; have FB : Hid (Below w.heap.size w w1) := FB.out.trans (hb.mono FB.out.size); clear hb; obtain ⟨x0_0, x0_1, x0_2, x0_3, x0_4, x0_5, x0_6, x0_7, x0_8, x0_9, x0_10, x0_11⟩ := F0.out; obtain ⟨x1_0, x1_1, y1_0, y1_1⟩ := F1.out; obtain ⟨x2_0, x2_1, x2_2, x2_3, y2_0, y2_1, y2_2, y2_3⟩ := F2.out)
  exact bodyPost_ret (v := .agg #[.int .i64 (Hs.askd h x sh ca fl), .int .i64 0, .int .i64 0, .slice none 0 0]) (by simp [results, Try.results7, go_sem, x2_0, x2_1, x2_2, x2_3]) rfl ⟨_, rfl, own_nil _ _, (((FB.out.setCell (by simp <;> omega) _).setCell (by simp <;> omega) _).setCell (by simp <;> omega) _).setCell (by simp <;> omega) _⟩
theorem led_call {h : Hs} {x : Lg} {nx : Int} {m : List Pe} {f : FuncId} {vs : Array Value} {w : World} {k : Int} {y : Lg} (hc : Calls Try.prog f vs w (isLed w k 0 y.nx y.ps)) (hk : k = 0) (hy : y = ⟨nx, m⟩) :
    Calls Try.prog f vs w fun e w' => ∃ a2 c2, e = .returned (.agg #[.int .i64 0, .int .i64 0, .int .i64 nx, .slice a2 m.length c2]) ∧ Own w' w.heap.size (.slice a2 m.length c2) m ∧ Below w.heap.size w w' := by
  subst hk hy
  refine hc.mono ?_
  rintro e w' ⟨v, rfl, ho2, hb⟩
  obtain ⟨a3, c3, rfl, -⟩ := ho2.pin
  exact ⟨a3, c3, rfl, ho2, hb⟩
/-- The five counts, as a row. -/
theorem count_list (h : Hs) (nx : Int) (l : List Pe) (a : Option Addr) (cap : Nat) (hl : l.length ≤ 60) (hk : Hs.led h ⟨nx, l⟩ = 0) (w : World) (hP : PIn w w.heap.size a l) :
    Calls Try.prog 11 #[.agg #[.int .i64 h.fl, .int .i64 h.gp, .int .i64 h.ln, .int .i64 h.rf, .int .i64 h.sp, .int .i64 h.pu, .int .i64 h.br, .int .i64 h.dr, .int .i64 h.lv, .int .i64 h.dO, .int .i64 h.ld, .int .i64 h.qu], .agg #[.int .i64 nx, .slice a l.length cap]] w fun e w' => ∃ ga gc, e = .returned (.agg #[.int .i64 0, .slice (some ⟨ga, 0, none⟩) 5 gc]) ∧ OwI w' w.heap.size (.slice (some ⟨ga, 0, none⟩) 5 gc) (cnts l) ∧ Below w.heap.size w w' := by
  refine (implCountPeople_any h ⟨nx, l⟩ a cap (by show l.length ≤ _; omega) w hP).mono ?_
  have e : Hs.cntV h ⟨nx, l⟩ = cnts l := if_pos hk
  rw [hk, e]
  rintro e2 w' ⟨la, lc, rfl, ho, hb⟩
  rcases ho.cases with ⟨_, h0⟩ | ⟨g, cp, e3⟩
  · simp [cnts] at h0
  · injection e3 with e4 e5 e6
    subst e4
    exact ⟨g, lc, rfl, ho, hb⟩
theorem load_list (h : Hs) (nx : Int) (l : List Pe) (sh ca : Int) (a : Option Addr) (cap : Nat) (hl : l.length ≤ 60) (hk : Hs.askd h ⟨nx, l⟩ sh ca 0 = 0) (r : Nat) (hr : (riders sh ca l).length = r) (w : World) (hP : PIn w w.heap.size a l) :
    Calls Try.prog 12 #[.agg #[.int .i64 h.fl, .int .i64 h.gp, .int .i64 h.ln, .int .i64 h.rf, .int .i64 h.sp, .int .i64 h.pu, .int .i64 h.br, .int .i64 h.dr, .int .i64 h.lv, .int .i64 h.dO, .int .i64 h.ld, .int .i64 h.qu], .agg #[.int .i64 nx, .slice a l.length cap], .int .i64 sh, .int .i64 ca] w fun e w' => ∃ la lc, e = .returned (.agg #[.int .i64 0, .slice la r lc]) ∧ Below w.heap.size w w' := by
  refine (implLoadOf_any h ⟨nx, l⟩ sh ca a cap (by show l.length ≤ _; omega) w hP).mono ?_
  have e0 : Hs.loadV h ⟨nx, l⟩ sh ca = riders sh ca l := if_pos hk
  rw [e0, hk, ← hr]
  rintro e w' ⟨la, lc, q1, -, q2⟩
  exact ⟨la, lc, q1, q2⟩
/-- The sum of the first counts. -/
def sm (c : List Int) (i : Nat) : Int := (c.take i).sum
theorem sm_next {c : List Int} {i : Nat} {x : Int} (h : c[i]? = some x) : sm c (i + 1) = sm c i + x := by
  unfold sm
  rw [List.take_add_one, h, List.sum_append]
  simp
theorem cnts_sum {m : List Pe} {n : Nat} (h : cnt 0 (-1) 0 m + cnt 1 (-1) 0 m + cnt 2 (-1) 0 m + cnt 3 (-1) 0 m + cnt 4 (-1) 0 m = n) : sm (cnts m) 5 = (n : Int) := by
  unfold sm cnts
  simp only [List.take_succ_cons, List.take_zero, List.sum_cons, List.sum_nil]
  omega
theorem cnts_in {m : List Pe} (hm : m.length ≤ 60) : ∀ (i : Nat) x, (cnts m)[i]? = some x → 0 ≤ x ∧ x ≤ 60 := by
  have b : ∀ st : Int, (cnt st (-1) 0 m : Int) ≤ 60 := fun st => by
    have := List.countP_le_length (l := m) (p := isIn st (-1) 0)
    unfold cnt
    omega
  intro i x hx
  have hm2 := List.mem_of_getElem? hx
  unfold cnts at hm2
  simp only [List.mem_cons, List.not_mem_nil, or_false] at hm2
  have b0 := b 0
  have b1 := b 1
  have b2 := b 2
  have b3 := b 3
  have b4 := b 4
  rcases hm2 with rfl | rfl | rfl | rfl | rfl <;> omega
end Go.Proofs.Ytoekhkolakielaa
