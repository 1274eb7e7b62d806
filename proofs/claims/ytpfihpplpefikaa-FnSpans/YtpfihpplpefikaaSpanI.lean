/-
  The program's spans: one floor; a span that grows; ExtendSpans.
-/
import Derived.Test.YtpfihpplpefikaaSpanH
import Derived.Test.YtpfihpplpefikaaSpanF
import Derived.Test.YtpfihpplpefikaaGrow
import Derived.BigGuardPart
namespace Go.Proofs.Ytpfihpplpefikaa
open Go.RowKit Pl
set_option linter.unusedSimpArgs false
set_option linter.unusedVariables false

theorem extS_grow {h : Hs} {x : Ss} {a b : Int} (k : Hs.spans h x = 0) (hab : a < b) :
    extS x a b = ⟨growS x.l (min a (x.u.lo - 1)), growS x.u (max b ((growS x.l (min a (x.u.lo - 1))).hi + 1))⟩ := by
  unfold Hs.spans at k
  by_cases hf : h.fault = 0
  · rw [if_pos hf] at k
    unfold Hs.spanC spanB at k
    split at k
    · split at k
      · omega
      · rename_i q
        simp only [Bool.or_eq_true, decide_eq_true_eq, not_or] at q
        unfold extS growS
        simp only [Ss.mk.injEq, Sp.mk.injEq]
        refine ⟨⟨?_, ?_⟩, ⟨?_, ?_⟩⟩ <;> (try dsimp only) <;> omega
    · omega
  · rw [if_neg hf] at k
    exact absurd k hf
set_option maxRecDepth 20000 in
set_option maxHeartbeats 16000000 in
theorem extended_any (x : Ss) (a b : Int) (a3 : -1000 ≤ x.u.lo) (a4 : x.u.lo ≤ 1000) (g1 g2 : Sp) (h1 : growS x.l (min a (x.u.lo - 1)) = g1) (a5 : -2000 ≤ g1.hi) (a6 : g1.hi ≤ 2000) (h2 : growS x.u (max b (g1.hi + 1)) = g2) (w : World) :
    Calls Try.prog 25 #[.agg #[.int .i64 x.l.lo, .int .i64 x.l.hi, .int .i64 x.u.lo, .int .i64 x.u.hi], .int .i64 a, .int .i64 b] w fun e w' => e = .returned (.agg #[.int .i64 g1.lo, .int .i64 g1.hi, .int .i64 g2.lo, .int .i64 g2.hi]) ∧ Below w.heap.size w w' := by
  have e1 : IntKind.i64.wrap (x.u.lo - 1) = x.u.lo - 1 := IntWalk.i64_in _ (by omega)
  have e2 : IntKind.i64.wrap (g1.hi + 1) = g1.hi + 1 := IntWalk.i64_in _ (by omega)
  clear a3 a4 a5 a6
  have F0 : Hid (NW ((w.alloc (.cells #[.int .i64 x.l.lo, .int .i64 x.l.hi, .int .i64 x.u.lo, .int .i64 x.u.hi] 29)).alloc (.cells #[.int .i64 0, .int .i64 0, .int .i64 0, .int .i64 0] 29)) w.heap.size x) := (NW.at_ w x _ _ (by simp)).alloc _
  have F1 : Hid (NW ((w.alloc (.cells #[.int .i64 x.l.lo, .int .i64 x.l.hi, .int .i64 x.u.lo, .int .i64 x.u.hi] 29)).alloc (.cells #[.int .i64 0, .int .i64 0, .int .i64 0, .int .i64 0] 29)) (w.heap.size + 1) (⟨⟨0, 0⟩, ⟨0, 0⟩⟩ : Ss)) := NW.at_ _ (⟨⟨0, 0⟩, ⟨0, 0⟩⟩ : Ss) _ _ (by simp)
  have FB : Hid (Below w.heap.size w ((w.alloc (.cells #[.int .i64 x.l.lo, .int .i64 x.l.hi, .int .i64 x.u.lo, .int .i64 x.u.hi] 29)).alloc (.cells #[.int .i64 0, .int .i64 0, .int .i64 0, .int .i64 0] 29))) := ((Below.refl _ _).alloc (Nat.le_refl _) _).alloc (by simp) _
  have c : (x.u.lo - 1 < a ∧ b < g1.hi + 1) ∨ (x.u.lo - 1 < a ∧ g1.hi + 1 ≤ b) ∨ (a ≤ x.u.lo - 1 ∧ b < g1.hi + 1) ∨ (a ≤ x.u.lo - 1 ∧ g1.hi + 1 ≤ b) := by omega
  rcases c with ⟨c1, c2⟩ | ⟨c1, c2⟩ | ⟨c1, c2⟩ | ⟨c1, c2⟩
  · have em : min a (x.u.lo - 1) = (x.u.lo - 1) := by omega
    have en : max b (g1.hi + 1) = (g1.hi + 1) := by omega
    rw [em] at h1
    rw [en] at h2
    have H1 : Hid (growS x.l (x.u.lo - 1) = g1) := h1
    have H2 : Hid (growS x.u (g1.hi + 1) = g2) := h2
    clear h1 h2 em en
    go_enter Try.func25, Try.ntmps25
    go_upto_region 2 with (go_at_call 46; refine (grown_any x.l (x.u.lo - 1) g1 H1.out _).mono ?_; rintro e w1 ⟨rfl, hb⟩; have F0 : Hid (NW w1 w.heap.size x) := F0.out.below hb F0.out.lt; have F1 : Hid (NW w1 (w.heap.size + 1) (⟨⟨0, 0⟩, ⟨0, 0⟩⟩ : Ss)) := F1.out.below hb F1.out.lt; have FB : Hid (Below w.heap.size w w1) := FB.out.trans (hb.mono FB.out.size); clear hb; obtain ⟨x0_0, x0_1, x0_2, x0_3, y0_0, y0_1, y0_2, y0_3⟩ := F0.out; try dsimp only at x0_0 x0_1 x0_2 x0_3)
    clear x0_0 x0_1 x0_2 x0_3 y0_0 y0_1 y0_2 y0_3
    obtain ⟨W1, hw_⟩ : ∃ W1, W1 = (w1.setCell ⟨w.heap.size, 0, none⟩ (.int .i64 g1.lo)).setCell ⟨w.heap.size, 1, none⟩ (.int .i64 g1.hi) := ⟨_, rfl⟩
    rw [← hw_]
    have F0 : Hid (NW W1 w.heap.size (⟨g1, x.u⟩ : Ss)) := by rw [hw_]; exact (F0.out.set0 g1.lo).set1 g1.hi
    have F1 : Hid (NW W1 (w.heap.size + 1) (⟨⟨0, 0⟩, ⟨0, 0⟩⟩ : Ss)) := by rw [hw_]; exact (F1.out.other (by omega)).other (by omega)
    have FB : Hid (Below w.heap.size w W1) := by rw [hw_]; exact (FB.out.setCell (Nat.le_refl _) _).setCell (Nat.le_refl _) _
    clear hw_
    obtain ⟨x0_0, x0_1, x0_2, x0_3, y0_0, y0_1, y0_2, y0_3⟩ := F0.out
    try dsimp only at x0_0 x0_1 x0_2 x0_3
    go_upto_region 3 with (go_at_call 46; refine (grown_any x.u (g1.hi + 1) g2 H2.out _).mono ?_; rintro e w2 ⟨rfl, hb⟩; have F0 : Hid (NW w2 w.heap.size (⟨g1, x.u⟩ : Ss)) := F0.out.below hb F0.out.lt; have F1 : Hid (NW w2 (w.heap.size + 1) (⟨⟨0, 0⟩, ⟨0, 0⟩⟩ : Ss)) := F1.out.below hb F1.out.lt; have FB : Hid (Below w.heap.size w w2) := FB.out.trans (hb.mono FB.out.size); clear hb; obtain ⟨x0_0, x0_1, x0_2, x0_3, y0_0, y0_1, y0_2, y0_3⟩ := F0.out; try dsimp only at x0_0 x0_1 x0_2 x0_3)
    clear x0_0 x0_1 x0_2 x0_3 y0_0 y0_1 y0_2 y0_3
    obtain ⟨W2, hw_⟩ : ∃ W2, W2 = (w2.setCell ⟨w.heap.size, 2, none⟩ (.int .i64 g2.lo)).setCell ⟨w.heap.size, 3, none⟩ (.int .i64 g2.hi) := ⟨_, rfl⟩
    rw [← hw_]
    have F0 : Hid (NW W2 w.heap.size (⟨g1, g2⟩ : Ss)) := by rw [hw_]; exact (F0.out.set2 g2.lo).set3 g2.hi
    have F1 : Hid (NW W2 (w.heap.size + 1) (⟨⟨0, 0⟩, ⟨0, 0⟩⟩ : Ss)) := by rw [hw_]; exact (F1.out.other (by omega)).other (by omega)
    have FB : Hid (Below w.heap.size w W2) := by rw [hw_]; exact (FB.out.setCell (Nat.le_refl _) _).setCell (Nat.le_refl _) _
    clear hw_
    obtain ⟨x0_0, x0_1, x0_2, x0_3, y0_0, y0_1, y0_2, y0_3⟩ := F0.out
    obtain ⟨x1_0, x1_1, x1_2, x1_3, y1_0, y1_1, y1_2, y1_3⟩ := F1.out
    try dsimp only at x0_0 x0_1 x0_2 x0_3 x1_0 x1_1 x1_2 x1_3
    go_wp2_with fail
    exact bodyPost_ret (v := .agg #[.int .i64 g1.lo, .int .i64 g1.hi, .int .i64 g2.lo, .int .i64 g2.hi]) (by simp [results, Try.results25, go_sem, x1_0, x1_1, x1_2, x1_3]) rfl ⟨rfl, by repeat (first | exact FB.out | (refine Below.setCell ?_ (by simp <;> omega) _))⟩
  · have em : min a (x.u.lo - 1) = (x.u.lo - 1) := by omega
    have en : max b (g1.hi + 1) = b := by omega
    rw [em] at h1
    rw [en] at h2
    have H1 : Hid (growS x.l (x.u.lo - 1) = g1) := h1
    have H2 : Hid (growS x.u b = g2) := h2
    clear h1 h2 em en
    go_enter Try.func25, Try.ntmps25
    go_upto_region 2 with (go_at_call 46; refine (grown_any x.l (x.u.lo - 1) g1 H1.out _).mono ?_; rintro e w1 ⟨rfl, hb⟩; have F0 : Hid (NW w1 w.heap.size x) := F0.out.below hb F0.out.lt; have F1 : Hid (NW w1 (w.heap.size + 1) (⟨⟨0, 0⟩, ⟨0, 0⟩⟩ : Ss)) := F1.out.below hb F1.out.lt; have FB : Hid (Below w.heap.size w w1) := FB.out.trans (hb.mono FB.out.size); clear hb; obtain ⟨x0_0, x0_1, x0_2, x0_3, y0_0, y0_1, y0_2, y0_3⟩ := F0.out; try dsimp only at x0_0 x0_1 x0_2 x0_3)
    clear x0_0 x0_1 x0_2 x0_3 y0_0 y0_1 y0_2 y0_3
    obtain ⟨W1, hw_⟩ : ∃ W1, W1 = (w1.setCell ⟨w.heap.size, 0, none⟩ (.int .i64 g1.lo)).setCell ⟨w.heap.size, 1, none⟩ (.int .i64 g1.hi) := ⟨_, rfl⟩
    rw [← hw_]
    have F0 : Hid (NW W1 w.heap.size (⟨g1, x.u⟩ : Ss)) := by rw [hw_]; exact (F0.out.set0 g1.lo).set1 g1.hi
    have F1 : Hid (NW W1 (w.heap.size + 1) (⟨⟨0, 0⟩, ⟨0, 0⟩⟩ : Ss)) := by rw [hw_]; exact (F1.out.other (by omega)).other (by omega)
    have FB : Hid (Below w.heap.size w W1) := by rw [hw_]; exact (FB.out.setCell (Nat.le_refl _) _).setCell (Nat.le_refl _) _
    clear hw_
    obtain ⟨x0_0, x0_1, x0_2, x0_3, y0_0, y0_1, y0_2, y0_3⟩ := F0.out
    try dsimp only at x0_0 x0_1 x0_2 x0_3
    go_upto_region 3 with (go_at_call 46; refine (grown_any x.u b g2 H2.out _).mono ?_; rintro e w2 ⟨rfl, hb⟩; have F0 : Hid (NW w2 w.heap.size (⟨g1, x.u⟩ : Ss)) := F0.out.below hb F0.out.lt; have F1 : Hid (NW w2 (w.heap.size + 1) (⟨⟨0, 0⟩, ⟨0, 0⟩⟩ : Ss)) := F1.out.below hb F1.out.lt; have FB : Hid (Below w.heap.size w w2) := FB.out.trans (hb.mono FB.out.size); clear hb; obtain ⟨x0_0, x0_1, x0_2, x0_3, y0_0, y0_1, y0_2, y0_3⟩ := F0.out; try dsimp only at x0_0 x0_1 x0_2 x0_3)
    clear x0_0 x0_1 x0_2 x0_3 y0_0 y0_1 y0_2 y0_3
    obtain ⟨W2, hw_⟩ : ∃ W2, W2 = (w2.setCell ⟨w.heap.size, 2, none⟩ (.int .i64 g2.lo)).setCell ⟨w.heap.size, 3, none⟩ (.int .i64 g2.hi) := ⟨_, rfl⟩
    rw [← hw_]
    have F0 : Hid (NW W2 w.heap.size (⟨g1, g2⟩ : Ss)) := by rw [hw_]; exact (F0.out.set2 g2.lo).set3 g2.hi
    have F1 : Hid (NW W2 (w.heap.size + 1) (⟨⟨0, 0⟩, ⟨0, 0⟩⟩ : Ss)) := by rw [hw_]; exact (F1.out.other (by omega)).other (by omega)
    have FB : Hid (Below w.heap.size w W2) := by rw [hw_]; exact (FB.out.setCell (Nat.le_refl _) _).setCell (Nat.le_refl _) _
    clear hw_
    obtain ⟨x0_0, x0_1, x0_2, x0_3, y0_0, y0_1, y0_2, y0_3⟩ := F0.out
    obtain ⟨x1_0, x1_1, x1_2, x1_3, y1_0, y1_1, y1_2, y1_3⟩ := F1.out
    try dsimp only at x0_0 x0_1 x0_2 x0_3 x1_0 x1_1 x1_2 x1_3
    go_wp2_with fail
    exact bodyPost_ret (v := .agg #[.int .i64 g1.lo, .int .i64 g1.hi, .int .i64 g2.lo, .int .i64 g2.hi]) (by simp [results, Try.results25, go_sem, x1_0, x1_1, x1_2, x1_3]) rfl ⟨rfl, by repeat (first | exact FB.out | (refine Below.setCell ?_ (by simp <;> omega) _))⟩
  · have em : min a (x.u.lo - 1) = a := by omega
    have en : max b (g1.hi + 1) = (g1.hi + 1) := by omega
    rw [em] at h1
    rw [en] at h2
    have H1 : Hid (growS x.l a = g1) := h1
    have H2 : Hid (growS x.u (g1.hi + 1) = g2) := h2
    clear h1 h2 em en
    go_enter Try.func25, Try.ntmps25
    go_upto_region 2 with (go_at_call 46; refine (grown_any x.l a g1 H1.out _).mono ?_; rintro e w1 ⟨rfl, hb⟩; have F0 : Hid (NW w1 w.heap.size x) := F0.out.below hb F0.out.lt; have F1 : Hid (NW w1 (w.heap.size + 1) (⟨⟨0, 0⟩, ⟨0, 0⟩⟩ : Ss)) := F1.out.below hb F1.out.lt; have FB : Hid (Below w.heap.size w w1) := FB.out.trans (hb.mono FB.out.size); clear hb; obtain ⟨x0_0, x0_1, x0_2, x0_3, y0_0, y0_1, y0_2, y0_3⟩ := F0.out; try dsimp only at x0_0 x0_1 x0_2 x0_3)
    clear x0_0 x0_1 x0_2 x0_3 y0_0 y0_1 y0_2 y0_3
    obtain ⟨W1, hw_⟩ : ∃ W1, W1 = (w1.setCell ⟨w.heap.size, 0, none⟩ (.int .i64 g1.lo)).setCell ⟨w.heap.size, 1, none⟩ (.int .i64 g1.hi) := ⟨_, rfl⟩
    rw [← hw_]
    have F0 : Hid (NW W1 w.heap.size (⟨g1, x.u⟩ : Ss)) := by rw [hw_]; exact (F0.out.set0 g1.lo).set1 g1.hi
    have F1 : Hid (NW W1 (w.heap.size + 1) (⟨⟨0, 0⟩, ⟨0, 0⟩⟩ : Ss)) := by rw [hw_]; exact (F1.out.other (by omega)).other (by omega)
    have FB : Hid (Below w.heap.size w W1) := by rw [hw_]; exact (FB.out.setCell (Nat.le_refl _) _).setCell (Nat.le_refl _) _
    clear hw_
    obtain ⟨x0_0, x0_1, x0_2, x0_3, y0_0, y0_1, y0_2, y0_3⟩ := F0.out
    try dsimp only at x0_0 x0_1 x0_2 x0_3
    go_upto_region 3 with (go_at_call 46; refine (grown_any x.u (g1.hi + 1) g2 H2.out _).mono ?_; rintro e w2 ⟨rfl, hb⟩; have F0 : Hid (NW w2 w.heap.size (⟨g1, x.u⟩ : Ss)) := F0.out.below hb F0.out.lt; have F1 : Hid (NW w2 (w.heap.size + 1) (⟨⟨0, 0⟩, ⟨0, 0⟩⟩ : Ss)) := F1.out.below hb F1.out.lt; have FB : Hid (Below w.heap.size w w2) := FB.out.trans (hb.mono FB.out.size); clear hb; obtain ⟨x0_0, x0_1, x0_2, x0_3, y0_0, y0_1, y0_2, y0_3⟩ := F0.out; try dsimp only at x0_0 x0_1 x0_2 x0_3)
    clear x0_0 x0_1 x0_2 x0_3 y0_0 y0_1 y0_2 y0_3
    obtain ⟨W2, hw_⟩ : ∃ W2, W2 = (w2.setCell ⟨w.heap.size, 2, none⟩ (.int .i64 g2.lo)).setCell ⟨w.heap.size, 3, none⟩ (.int .i64 g2.hi) := ⟨_, rfl⟩
    rw [← hw_]
    have F0 : Hid (NW W2 w.heap.size (⟨g1, g2⟩ : Ss)) := by rw [hw_]; exact (F0.out.set2 g2.lo).set3 g2.hi
    have F1 : Hid (NW W2 (w.heap.size + 1) (⟨⟨0, 0⟩, ⟨0, 0⟩⟩ : Ss)) := by rw [hw_]; exact (F1.out.other (by omega)).other (by omega)
    have FB : Hid (Below w.heap.size w W2) := by rw [hw_]; exact (FB.out.setCell (Nat.le_refl _) _).setCell (Nat.le_refl _) _
    clear hw_
    obtain ⟨x0_0, x0_1, x0_2, x0_3, y0_0, y0_1, y0_2, y0_3⟩ := F0.out
    obtain ⟨x1_0, x1_1, x1_2, x1_3, y1_0, y1_1, y1_2, y1_3⟩ := F1.out
    try dsimp only at x0_0 x0_1 x0_2 x0_3 x1_0 x1_1 x1_2 x1_3
    go_wp2_with fail
    exact bodyPost_ret (v := .agg #[.int .i64 g1.lo, .int .i64 g1.hi, .int .i64 g2.lo, .int .i64 g2.hi]) (by simp [results, Try.results25, go_sem, x1_0, x1_1, x1_2, x1_3]) rfl ⟨rfl, by repeat (first | exact FB.out | (refine Below.setCell ?_ (by simp <;> omega) _))⟩
  · have em : min a (x.u.lo - 1) = a := by omega
    have en : max b (g1.hi + 1) = b := by omega
    rw [em] at h1
    rw [en] at h2
    have H1 : Hid (growS x.l a = g1) := h1
    have H2 : Hid (growS x.u b = g2) := h2
    clear h1 h2 em en
    go_enter Try.func25, Try.ntmps25
    go_upto_region 2 with (go_at_call 46; refine (grown_any x.l a g1 H1.out _).mono ?_; rintro e w1 ⟨rfl, hb⟩; have F0 : Hid (NW w1 w.heap.size x) := F0.out.below hb F0.out.lt; have F1 : Hid (NW w1 (w.heap.size + 1) (⟨⟨0, 0⟩, ⟨0, 0⟩⟩ : Ss)) := F1.out.below hb F1.out.lt; have FB : Hid (Below w.heap.size w w1) := FB.out.trans (hb.mono FB.out.size); clear hb; obtain ⟨x0_0, x0_1, x0_2, x0_3, y0_0, y0_1, y0_2, y0_3⟩ := F0.out; try dsimp only at x0_0 x0_1 x0_2 x0_3)
    clear x0_0 x0_1 x0_2 x0_3 y0_0 y0_1 y0_2 y0_3
    obtain ⟨W1, hw_⟩ : ∃ W1, W1 = (w1.setCell ⟨w.heap.size, 0, none⟩ (.int .i64 g1.lo)).setCell ⟨w.heap.size, 1, none⟩ (.int .i64 g1.hi) := ⟨_, rfl⟩
    rw [← hw_]
    have F0 : Hid (NW W1 w.heap.size (⟨g1, x.u⟩ : Ss)) := by rw [hw_]; exact (F0.out.set0 g1.lo).set1 g1.hi
    have F1 : Hid (NW W1 (w.heap.size + 1) (⟨⟨0, 0⟩, ⟨0, 0⟩⟩ : Ss)) := by rw [hw_]; exact (F1.out.other (by omega)).other (by omega)
    have FB : Hid (Below w.heap.size w W1) := by rw [hw_]; exact (FB.out.setCell (Nat.le_refl _) _).setCell (Nat.le_refl _) _
    clear hw_
    obtain ⟨x0_0, x0_1, x0_2, x0_3, y0_0, y0_1, y0_2, y0_3⟩ := F0.out
    try dsimp only at x0_0 x0_1 x0_2 x0_3
    go_upto_region 3 with (go_at_call 46; refine (grown_any x.u b g2 H2.out _).mono ?_; rintro e w2 ⟨rfl, hb⟩; have F0 : Hid (NW w2 w.heap.size (⟨g1, x.u⟩ : Ss)) := F0.out.below hb F0.out.lt; have F1 : Hid (NW w2 (w.heap.size + 1) (⟨⟨0, 0⟩, ⟨0, 0⟩⟩ : Ss)) := F1.out.below hb F1.out.lt; have FB : Hid (Below w.heap.size w w2) := FB.out.trans (hb.mono FB.out.size); clear hb; obtain ⟨x0_0, x0_1, x0_2, x0_3, y0_0, y0_1, y0_2, y0_3⟩ := F0.out; try dsimp only at x0_0 x0_1 x0_2 x0_3)
    clear x0_0 x0_1 x0_2 x0_3 y0_0 y0_1 y0_2 y0_3
    obtain ⟨W2, hw_⟩ : ∃ W2, W2 = (w2.setCell ⟨w.heap.size, 2, none⟩ (.int .i64 g2.lo)).setCell ⟨w.heap.size, 3, none⟩ (.int .i64 g2.hi) := ⟨_, rfl⟩
    rw [← hw_]
    have F0 : Hid (NW W2 w.heap.size (⟨g1, g2⟩ : Ss)) := by rw [hw_]; exact (F0.out.set2 g2.lo).set3 g2.hi
    have F1 : Hid (NW W2 (w.heap.size + 1) (⟨⟨0, 0⟩, ⟨0, 0⟩⟩ : Ss)) := by rw [hw_]; exact (F1.out.other (by omega)).other (by omega)
    have FB : Hid (Below w.heap.size w W2) := by rw [hw_]; exact (FB.out.setCell (Nat.le_refl _) _).setCell (Nat.le_refl _) _
    clear hw_
    obtain ⟨x0_0, x0_1, x0_2, x0_3, y0_0, y0_1, y0_2, y0_3⟩ := F0.out
    obtain ⟨x1_0, x1_1, x1_2, x1_3, y1_0, y1_1, y1_2, y1_3⟩ := F1.out
    try dsimp only at x0_0 x0_1 x0_2 x0_3 x1_0 x1_1 x1_2 x1_3
    go_wp2_with fail
    exact bodyPost_ret (v := .agg #[.int .i64 g1.lo, .int .i64 g1.hi, .int .i64 g2.lo, .int .i64 g2.hi]) (by simp [results, Try.results25, go_sem, x1_0, x1_1, x1_2, x1_3]) rfl ⟨rfl, by repeat (first | exact FB.out | (refine Below.setCell ?_ (by simp <;> omega) _))⟩
set_option maxRecDepth 20000 in
set_option maxHeartbeats 8000000 in
theorem implExtendSpans_any (h : Hs) (x : Ss) (a b : Int) (w : World) :
    Calls Try.prog 8 #[.agg #[.int .i64 h.fl, .int .i64 h.gp, .int .i64 h.ln, .int .i64 h.rf, .int .i64 h.sp, .int .i64 h.pu, .int .i64 h.br, .int .i64 h.dr, .int .i64 h.lv, .int .i64 h.dO, .int .i64 h.ld, .int .i64 h.qu], .agg #[.int .i64 x.l.lo, .int .i64 x.l.hi, .int .i64 x.u.lo, .int .i64 x.u.hi], .int .i64 a, .int .i64 b] w (isSps w (Hs.extK h x a b) (Hs.extV h x a b)) := by
  have F0 : Hid (HAt (((w.alloc (.cells #[.int .i64 h.fl, .int .i64 h.gp, .int .i64 h.ln, .int .i64 h.rf, .int .i64 h.sp, .int .i64 h.pu, .int .i64 h.br, .int .i64 h.dr, .int .i64 h.lv, .int .i64 h.dO, .int .i64 h.ld, .int .i64 h.qu] 25)).alloc (.cells #[.int .i64 x.l.lo, .int .i64 x.l.hi, .int .i64 x.u.lo, .int .i64 x.u.hi] 29)).alloc (.cells #[.int .i64 0, .int .i64 0, .int .i64 0, .int .i64 0, .int .i64 0] 33)) w.heap.size h) := ((HAt.at_ w h _ _ (by simp)).alloc _).alloc _
  have F1 : Hid (NW (((w.alloc (.cells #[.int .i64 h.fl, .int .i64 h.gp, .int .i64 h.ln, .int .i64 h.rf, .int .i64 h.sp, .int .i64 h.pu, .int .i64 h.br, .int .i64 h.dr, .int .i64 h.lv, .int .i64 h.dO, .int .i64 h.ld, .int .i64 h.qu] 25)).alloc (.cells #[.int .i64 x.l.lo, .int .i64 x.l.hi, .int .i64 x.u.lo, .int .i64 x.u.hi] 29)).alloc (.cells #[.int .i64 0, .int .i64 0, .int .i64 0, .int .i64 0, .int .i64 0] 33)) (w.heap.size + 1) x) := (NW.at_ (w.alloc (.cells #[.int .i64 h.fl, .int .i64 h.gp, .int .i64 h.ln, .int .i64 h.rf, .int .i64 h.sp, .int .i64 h.pu, .int .i64 h.br, .int .i64 h.dr, .int .i64 h.lv, .int .i64 h.dO, .int .i64 h.ld, .int .i64 h.qu] 25)) x _ _ (by simp)).alloc _
  have F2 : Hid (RSps (((w.alloc (.cells #[.int .i64 h.fl, .int .i64 h.gp, .int .i64 h.ln, .int .i64 h.rf, .int .i64 h.sp, .int .i64 h.pu, .int .i64 h.br, .int .i64 h.dr, .int .i64 h.lv, .int .i64 h.dO, .int .i64 h.ld, .int .i64 h.qu] 25)).alloc (.cells #[.int .i64 x.l.lo, .int .i64 x.l.hi, .int .i64 x.u.lo, .int .i64 x.u.hi] 29)).alloc (.cells #[.int .i64 0, .int .i64 0, .int .i64 0, .int .i64 0, .int .i64 0] 33)) (w.heap.size + 2)) := RSps.at_ ((w.alloc (.cells #[.int .i64 h.fl, .int .i64 h.gp, .int .i64 h.ln, .int .i64 h.rf, .int .i64 h.sp, .int .i64 h.pu, .int .i64 h.br, .int .i64 h.dr, .int .i64 h.lv, .int .i64 h.dO, .int .i64 h.ld, .int .i64 h.qu] 25)).alloc (.cells #[.int .i64 x.l.lo, .int .i64 x.l.hi, .int .i64 x.u.lo, .int .i64 x.u.hi] 29)) _ _ (by simp)
  have FB : Hid (Below w.heap.size w (((w.alloc (.cells #[.int .i64 h.fl, .int .i64 h.gp, .int .i64 h.ln, .int .i64 h.rf, .int .i64 h.sp, .int .i64 h.pu, .int .i64 h.br, .int .i64 h.dr, .int .i64 h.lv, .int .i64 h.dO, .int .i64 h.ld, .int .i64 h.qu] 25)).alloc (.cells #[.int .i64 x.l.lo, .int .i64 x.l.hi, .int .i64 x.u.lo, .int .i64 x.u.hi] 29)).alloc (.cells #[.int .i64 0, .int .i64 0, .int .i64 0, .int .i64 0, .int .i64 0] 33))) := ((((Below.refl _ _).alloc (Nat.le_refl _) _).alloc (by simp <;> omega) _).alloc (by simp <;> omega) _)
  by_cases hf : Hs.spans h x = 0
  · cases i1 : inB a (-1) h.fl with
    | false =>
      have q1 : Hs.extK h x a b = 3 := by unfold Hs.extK; rw [if_pos hf, i1]; simp
      have q2 : Hs.extV h x a b = ⟨⟨0, 0⟩, ⟨0, 0⟩⟩ := by unfold Hs.extV; rw [q1]; simp
      rw [q1, q2]
      clear q1 q2
      go_enter Try.func8, Try.ntmps8
      go_wp2_with (first | (go_at_call 10; refine (implSpansFault_any h x _).mono ?_; rw [hf]; rintro e w1 ⟨rfl, hb⟩; have F0 : Hid (HAt w1 w.heap.size h) := F0.out.below hb F0.out.lt; have F1 : Hid (NW w1 (w.heap.size + 1) x) := F1.out.below hb F1.out.lt; have F2 : Hid (RSps w1 (w.heap.size + 2)) := F2.out.below hb F2.out.lt; have FB : Hid (Below w.heap.size w w1) := FB.out.trans (hb.mono FB.out.size); obtain ⟨x0_0, x0_1, x0_2, x0_3, x0_4, x0_5, x0_6, x0_7, x0_8, x0_9, x0_10, x0_11⟩ := F0.out; obtain ⟨x1_0, x1_1, x1_2, x1_3, y1_0, y1_1, y1_2, y1_3⟩ := F1.out; obtain ⟨x2_0, x2_1, x2_2, x2_3, x2_4, y2_0, y2_1, y2_2, y2_3, y2_4⟩ := F2.out; clear hb) | (go_at_call 24; refine (hasPlace_any h _ _).mono ?_; rintro e w2 ⟨rfl, hb⟩; have F0 : Hid (HAt w2 w.heap.size h) := F0.out.below hb F0.out.lt; have F1 : Hid (NW w2 (w.heap.size + 1) x) := F1.out.below hb F1.out.lt; have F2 : Hid (RSps w2 (w.heap.size + 2)) := F2.out.below hb F2.out.lt; have FB : Hid (Below w.heap.size w w2) := FB.out.trans (hb.mono FB.out.size); obtain ⟨x0_0, x0_1, x0_2, x0_3, x0_4, x0_5, x0_6, x0_7, x0_8, x0_9, x0_10, x0_11⟩ := F0.out; obtain ⟨x1_0, x1_1, x1_2, x1_3, y1_0, y1_1, y1_2, y1_3⟩ := F1.out; obtain ⟨x2_0, x2_1, x2_2, x2_3, x2_4, y2_0, y2_1, y2_2, y2_3, y2_4⟩ := F2.out; clear hb))
      exact bodyPost_ret (v := .agg #[.int .i64 3, .int .i64 0, .int .i64 0, .int .i64 0, .int .i64 0]) (by simp [results, Try.results8, go_sem, x2_0, x2_1, x2_2, x2_3, x2_4]) rfl ⟨rfl, by repeat (first | exact FB.out | (refine Below.setCell ?_ (by simp <;> omega) _))⟩
    | true =>
      cases i2 : inB b (-1) h.fl with
      | false =>
        have q1 : Hs.extK h x a b = 3 := by unfold Hs.extK; rw [if_pos hf, i2]; simp
        have q2 : Hs.extV h x a b = ⟨⟨0, 0⟩, ⟨0, 0⟩⟩ := by unfold Hs.extV; rw [q1]; simp
        rw [q1, q2]
        clear q1 q2
        go_enter Try.func8, Try.ntmps8
        go_wp2_with (first | (go_at_call 10; refine (implSpansFault_any h x _).mono ?_; rw [hf]; rintro e w1 ⟨rfl, hb⟩; have F0 : Hid (HAt w1 w.heap.size h) := F0.out.below hb F0.out.lt; have F1 : Hid (NW w1 (w.heap.size + 1) x) := F1.out.below hb F1.out.lt; have F2 : Hid (RSps w1 (w.heap.size + 2)) := F2.out.below hb F2.out.lt; have FB : Hid (Below w.heap.size w w1) := FB.out.trans (hb.mono FB.out.size); obtain ⟨x0_0, x0_1, x0_2, x0_3, x0_4, x0_5, x0_6, x0_7, x0_8, x0_9, x0_10, x0_11⟩ := F0.out; obtain ⟨x1_0, x1_1, x1_2, x1_3, y1_0, y1_1, y1_2, y1_3⟩ := F1.out; obtain ⟨x2_0, x2_1, x2_2, x2_3, x2_4, y2_0, y2_1, y2_2, y2_3, y2_4⟩ := F2.out; clear hb) | (go_at_call 24; refine (hasPlace_any h _ _).mono ?_; rintro e w2 ⟨rfl, hb⟩; have F0 : Hid (HAt w2 w.heap.size h) := F0.out.below hb F0.out.lt; have F1 : Hid (NW w2 (w.heap.size + 1) x) := F1.out.below hb F1.out.lt; have F2 : Hid (RSps w2 (w.heap.size + 2)) := F2.out.below hb F2.out.lt; have FB : Hid (Below w.heap.size w w2) := FB.out.trans (hb.mono FB.out.size); obtain ⟨x0_0, x0_1, x0_2, x0_3, x0_4, x0_5, x0_6, x0_7, x0_8, x0_9, x0_10, x0_11⟩ := F0.out; obtain ⟨x1_0, x1_1, x1_2, x1_3, y1_0, y1_1, y1_2, y1_3⟩ := F1.out; obtain ⟨x2_0, x2_1, x2_2, x2_3, x2_4, y2_0, y2_1, y2_2, y2_3, y2_4⟩ := F2.out; clear hb))
        exact bodyPost_ret (v := .agg #[.int .i64 3, .int .i64 0, .int .i64 0, .int .i64 0, .int .i64 0]) (by simp [results, Try.results8, go_sem, x2_0, x2_1, x2_2, x2_3, x2_4]) rfl ⟨rfl, by repeat (first | exact FB.out | (refine Below.setCell ?_ (by simp <;> omega) _))⟩
      | true =>
        by_cases lt : a < b
        · have q1 : Hs.extK h x a b = 0 := by unfold Hs.extK; rw [if_pos hf, i1, i2]; simp [lt]
          obtain ⟨g1, h1⟩ : ∃ g1, growS x.l (min a (x.u.lo - 1)) = g1 := ⟨_, rfl⟩
          obtain ⟨g2, h2⟩ : ∃ g2, growS x.u (max b (g1.hi + 1)) = g2 := ⟨_, rfl⟩
          have q2 : Hs.extV h x a b = ⟨g1, g2⟩ := by unfold Hs.extV; rw [if_pos q1, extS_grow hf lt, h1, h2]
          rw [q1, q2]
          obtain ⟨z1, z2, z3, z4, z5, z6⟩ := spans_zero hf
          have o := Hs.ok_of (Hs.fault_zero z1).1
          have l1 := o.fl2
          obtain ⟨j1, j2⟩ := inB_iff.1 i1
          have HB : Hid (-2000 ≤ g1.hi ∧ g1.hi ≤ 2000) := by
            have e : g1.hi = max x.l.hi (min a (x.u.lo - 1)) := by rw [← h1]; rfl
            refine ⟨?_, ?_⟩ <;> rw [e] <;> omega
          have H1 : Hid (growS x.l (min a (x.u.lo - 1)) = g1) := h1
          have H2 : Hid (growS x.u (max b (g1.hi + 1)) = g2) := h2
          have ng : ¬ b ≤ a := by omega
          clear q1 q2 h1 h2 o z1
          go_enter Try.func8, Try.ntmps8
          go_wp2_with (first | (go_at_call 10; refine (implSpansFault_any h x _).mono ?_; rw [hf]; rintro e w1 ⟨rfl, hb⟩; have F0 : Hid (HAt w1 w.heap.size h) := F0.out.below hb F0.out.lt; have F1 : Hid (NW w1 (w.heap.size + 1) x) := F1.out.below hb F1.out.lt; have F2 : Hid (RSps w1 (w.heap.size + 2)) := F2.out.below hb F2.out.lt; have FB : Hid (Below w.heap.size w w1) := FB.out.trans (hb.mono FB.out.size); obtain ⟨x0_0, x0_1, x0_2, x0_3, x0_4, x0_5, x0_6, x0_7, x0_8, x0_9, x0_10, x0_11⟩ := F0.out; obtain ⟨x1_0, x1_1, x1_2, x1_3, y1_0, y1_1, y1_2, y1_3⟩ := F1.out; obtain ⟨x2_0, x2_1, x2_2, x2_3, x2_4, y2_0, y2_1, y2_2, y2_3, y2_4⟩ := F2.out; clear hb) | (go_at_call 24; refine (hasPlace_any h _ _).mono ?_; rintro e w2 ⟨rfl, hb⟩; have F0 : Hid (HAt w2 w.heap.size h) := F0.out.below hb F0.out.lt; have F1 : Hid (NW w2 (w.heap.size + 1) x) := F1.out.below hb F1.out.lt; have F2 : Hid (RSps w2 (w.heap.size + 2)) := F2.out.below hb F2.out.lt; have FB : Hid (Below w.heap.size w w2) := FB.out.trans (hb.mono FB.out.size); obtain ⟨x0_0, x0_1, x0_2, x0_3, x0_4, x0_5, x0_6, x0_7, x0_8, x0_9, x0_10, x0_11⟩ := F0.out; obtain ⟨x1_0, x1_1, x1_2, x1_3, y1_0, y1_1, y1_2, y1_3⟩ := F1.out; obtain ⟨x2_0, x2_1, x2_2, x2_3, x2_4, y2_0, y2_1, y2_2, y2_3, y2_4⟩ := F2.out; clear hb) | (go_at_call 25; refine (extended_any x a b (by omega) (by omega) g1 g2 H1.out HB.out.1 HB.out.2 H2.out _).mono ?_; rintro e w3 ⟨rfl, hb⟩; have F0 : Hid (HAt w3 w.heap.size h) := F0.out.below hb F0.out.lt; have F1 : Hid (NW w3 (w.heap.size + 1) x) := F1.out.below hb F1.out.lt; have F2 : Hid (RSps w3 (w.heap.size + 2)) := F2.out.below hb F2.out.lt; have FB : Hid (Below w.heap.size w w3) := FB.out.trans (hb.mono FB.out.size); obtain ⟨x0_0, x0_1, x0_2, x0_3, x0_4, x0_5, x0_6, x0_7, x0_8, x0_9, x0_10, x0_11⟩ := F0.out; obtain ⟨x1_0, x1_1, x1_2, x1_3, y1_0, y1_1, y1_2, y1_3⟩ := F1.out; obtain ⟨x2_0, x2_1, x2_2, x2_3, x2_4, y2_0, y2_1, y2_2, y2_3, y2_4⟩ := F2.out; clear hb))
          exact bodyPost_ret (v := .agg #[.int .i64 0, .int .i64 g1.lo, .int .i64 g1.hi, .int .i64 g2.lo, .int .i64 g2.hi]) (by simp [results, Try.results8, go_sem, x2_0, x2_1, x2_2, x2_3, x2_4]) rfl ⟨rfl, by repeat (first | exact FB.out | (refine Below.setCell ?_ (by simp <;> omega) _))⟩
        · have ng : b ≤ a := by omega
          have q1 : Hs.extK h x a b = 1 := by unfold Hs.extK; rw [if_pos hf, i1, i2]; simp [lt]
          have q2 : Hs.extV h x a b = ⟨⟨0, 0⟩, ⟨0, 0⟩⟩ := by unfold Hs.extV; rw [q1]; simp
          rw [q1, q2]
          clear q1 q2
          go_enter Try.func8, Try.ntmps8
          go_wp2_with (first | (go_at_call 10; refine (implSpansFault_any h x _).mono ?_; rw [hf]; rintro e w1 ⟨rfl, hb⟩; have F0 : Hid (HAt w1 w.heap.size h) := F0.out.below hb F0.out.lt; have F1 : Hid (NW w1 (w.heap.size + 1) x) := F1.out.below hb F1.out.lt; have F2 : Hid (RSps w1 (w.heap.size + 2)) := F2.out.below hb F2.out.lt; have FB : Hid (Below w.heap.size w w1) := FB.out.trans (hb.mono FB.out.size); obtain ⟨x0_0, x0_1, x0_2, x0_3, x0_4, x0_5, x0_6, x0_7, x0_8, x0_9, x0_10, x0_11⟩ := F0.out; obtain ⟨x1_0, x1_1, x1_2, x1_3, y1_0, y1_1, y1_2, y1_3⟩ := F1.out; obtain ⟨x2_0, x2_1, x2_2, x2_3, x2_4, y2_0, y2_1, y2_2, y2_3, y2_4⟩ := F2.out; clear hb) | (go_at_call 24; refine (hasPlace_any h _ _).mono ?_; rintro e w2 ⟨rfl, hb⟩; have F0 : Hid (HAt w2 w.heap.size h) := F0.out.below hb F0.out.lt; have F1 : Hid (NW w2 (w.heap.size + 1) x) := F1.out.below hb F1.out.lt; have F2 : Hid (RSps w2 (w.heap.size + 2)) := F2.out.below hb F2.out.lt; have FB : Hid (Below w.heap.size w w2) := FB.out.trans (hb.mono FB.out.size); obtain ⟨x0_0, x0_1, x0_2, x0_3, x0_4, x0_5, x0_6, x0_7, x0_8, x0_9, x0_10, x0_11⟩ := F0.out; obtain ⟨x1_0, x1_1, x1_2, x1_3, y1_0, y1_1, y1_2, y1_3⟩ := F1.out; obtain ⟨x2_0, x2_1, x2_2, x2_3, x2_4, y2_0, y2_1, y2_2, y2_3, y2_4⟩ := F2.out; clear hb))
          exact bodyPost_ret (v := .agg #[.int .i64 1, .int .i64 0, .int .i64 0, .int .i64 0, .int .i64 0]) (by simp [results, Try.results8, go_sem, x2_0, x2_1, x2_2, x2_3, x2_4]) rfl ⟨rfl, by repeat (first | exact FB.out | (refine Below.setCell ?_ (by simp <;> omega) _))⟩
  · have q1 : Hs.extK h x a b = Hs.spans h x := by unfold Hs.extK; rw [if_neg hf]
    have q2 : Hs.extV h x a b = ⟨⟨0, 0⟩, ⟨0, 0⟩⟩ := by unfold Hs.extV; rw [q1, if_neg hf]
    rw [q1, q2]
    have hn : (Hs.spans h x != 0) = true := by simpa using hf
    clear q1 q2 hf
    go_enter Try.func8, Try.ntmps8
    go_wp2_with (go_at_call 10; refine (implSpansFault_any h x _).mono ?_; rintro e w1 ⟨rfl, hb⟩; have F0 : Hid (HAt w1 w.heap.size h) := F0.out.below hb F0.out.lt; have F1 : Hid (NW w1 (w.heap.size + 1) x) := F1.out.below hb F1.out.lt; have F2 : Hid (RSps w1 (w.heap.size + 2)) := F2.out.below hb F2.out.lt; have FB : Hid (Below w.heap.size w w1) := FB.out.trans (hb.mono FB.out.size); obtain ⟨x0_0, x0_1, x0_2, x0_3, x0_4, x0_5, x0_6, x0_7, x0_8, x0_9, x0_10, x0_11⟩ := F0.out; obtain ⟨x1_0, x1_1, x1_2, x1_3, y1_0, y1_1, y1_2, y1_3⟩ := F1.out; obtain ⟨x2_0, x2_1, x2_2, x2_3, x2_4, y2_0, y2_1, y2_2, y2_3, y2_4⟩ := F2.out; clear hb)
    exact bodyPost_ret (v := .agg #[.int .i64 (Hs.spans h x), .int .i64 0, .int .i64 0, .int .i64 0, .int .i64 0]) (by simp [results, Try.results8, go_sem, x2_0, x2_1, x2_2, x2_3, x2_4]) rfl ⟨rfl, by repeat (first | exact FB.out | (refine Below.setCell ?_ (by simp <;> omega) _))⟩
end Go.Proofs.Ytpfihpplpefikaa
