/-
  The program's map of floors: heldFloors, giveBack, leftTo.
-/
import Derived.Test.YtpfihpplpefikaaSpanM
import Derived.WalkKit
namespace Go.Proofs.Ytpfihpplpefikaa
open Go.RowKit Pl Go.Maps
set_option linter.unusedSimpArgs false
set_option linter.unusedVariables false

set_option maxRecDepth 20000 in
set_option maxHeartbeats 16000000 in
theorem heldFloors_any (x : Ss) (l1 : -1 ≤ x.l.lo) (l2 : x.l.lo ≤ x.l.hi) (k : x.l.hi < x.u.lo) (u1 : x.u.lo ≤ x.u.hi) (u2 : x.u.hi ≤ 900) (w : World) :
    Calls Try.prog 36 #[.agg #[.int .i64 x.l.lo, .int .i64 x.l.hi, .int .i64 x.u.lo, .int .i64 x.u.hi]] w fun e w' => ∃ b n, e = .returned (.map (some b)) ∧ w.heap.size ≤ b ∧ n ≤ 1000 ∧ Held w' b n (upS x (x.u.hi + 1)) ∧ Below w.heap.size w w' := by
  have hmm := @run_makeMap Try.prog
  have F0 : Hid (NW ((w.alloc (.cells #[.int .i64 x.l.lo, .int .i64 x.l.hi, .int .i64 x.u.lo, .int .i64 x.u.hi] 29)).alloc (.map #[] 0)) w.heap.size x) := (NW.at_ w x _ _ (by simp)).alloc _
  have FM : Hid (Held ((w.alloc (.cells #[.int .i64 x.l.lo, .int .i64 x.l.hi, .int .i64 x.u.lo, .int .i64 x.u.hi] 29)).alloc (.map #[] 0)) (w.heap.size + 1) (x.l.lo + 1).toNat (loS x x.l.lo)) := by
    have t : Told (.map []) (loS x x.l.lo) := by
      have e : loS x x.l.lo = fun _ => none := by
        funext f
        unfold loS
        rw [if_neg (by omega)]
      rw [e]
      exact Told.empty
    have ho := World.ownsMap_made (w.alloc (.cells #[.int .i64 x.l.lo, .int .i64 x.l.hi, .int .i64 x.u.lo, .int .i64 x.u.hi] 29)) Try.prog 27 RI
    rw [show (w.alloc (.cells #[.int .i64 x.l.lo, .int .i64 x.l.hi, .int .i64 x.u.lo, .int .i64 x.u.hi] 29)).heap.size = w.heap.size + 1 by simp] at ho
    exact ⟨_, ho.mono (by omega), t⟩
  have FB : Hid (Below w.heap.size w ((w.alloc (.cells #[.int .i64 x.l.lo, .int .i64 x.l.hi, .int .i64 x.u.lo, .int .i64 x.u.hi] 29)).alloc (.map #[] 0))) := ((Below.refl _ _).alloc (Nat.le_refl _) _).alloc (by simp) _
  obtain ⟨W0, hW0⟩ : ∃ W0, W0 = ((w.alloc (.cells #[.int .i64 x.l.lo, .int .i64 x.l.hi, .int .i64 x.u.lo, .int .i64 x.u.hi] 29)).alloc (.map #[] 0)) := ⟨_, rfl⟩
  rw [← hW0] at F0 FM FB
  have HW0 : Hid (W0 = ((w.alloc (.cells #[.int .i64 x.l.lo, .int .i64 x.l.hi, .int .i64 x.u.lo, .int .i64 x.u.hi] 29)).alloc (.map #[] 0))) := hW0
  clear hW0
  go_enter Try.func36, Try.ntmps36
  go_upto_region 2 with fail
  rw [← HW0.out]
  clear HW0 hmm
  obtain ⟨x0_0, x0_1, x0_2, x0_3, y0_0, y0_1, y0_2, y0_3⟩ := F0.out
  go_wp2_with fail
  clear x0_0 x0_1 x0_2 x0_3 y0_0 y0_1 y0_2 y0_3
  go_loopw [4] (fun nn wr => ∃ z : Int, nn = .int .i64 z ∧ x.l.lo ≤ z ∧ z ≤ x.l.hi + 1 ∧ NW wr w.heap.size x ∧ Held wr (w.heap.size + 1) (z + 1).toNat (loS x z) ∧ Below w.heap.size w wr) (fun nn _ => (x.l.hi + 1 - intOf nn).toNat)
  case atStart => exact ⟨x.l.lo, rfl, by omega, by omega, F0.out, FM.out, FB.out⟩
  case round =>
    obtain ⟨z, rfl, n1, n2, h0, h1, h2⟩ := hrel
    have F0 : Hid (NW wr w.heap.size x) := h0
    have FM : Hid (Held wr (w.heap.size + 1) (z + 1).toNat (loS x z)) := h1
    have FB : Hid (Below w.heap.size w wr) := h2
    clear h0 h1 h2
    obtain ⟨x0_0, x0_1, x0_2, x0_3, y0_0, y0_1, y0_2, y0_3⟩ := F0.out
    by_cases hlt : z ≤ x.l.hi
    · have ez : IntKind.i64.wrap (z + 1) = z + 1 := IntWalk.i64_in _ (by omega)
      go_wp2_with (first | (go_at_call 65; refine (oneFloor_any z _).mono ?_; rintro e w1 ⟨rfl, hb⟩; have F0 : Hid (NW w1 w.heap.size x) := F0.out.below hb F0.out.lt; have FM : Hid (Held w1 (w.heap.size + 1) (z + 1).toNat (loS x z)) := FM.out.below hb FM.out.lt; have FB : Hid (Below w.heap.size w w1) := FB.out.trans (hb.mono FB.out.size); clear hb) | (at_mapUpdate; obtain ⟨D, ho, t⟩ := FM.out; refine wpList_mapUpdate_own _ rfl _ _ _ 65 rfl 27 2 lawM undT RI (w.heap.size + 1) (z + 1).toNat _ rfl ho (by unfold maxLen; omega) _ _ _ rfl rfl (keyOf_span (wf64 (by omega) (by omega)) (wf64 (by omega) (by omega))) (.lit (.int .i64 0)) [] (plainElem_int undI (wf64 (by omega) (by omega))) ?_; intro w2 ho2 hg2) | fail)
      go_roundw
      case rel => exact ⟨z + 1, rfl, by omega, by omega, F0.out.grown hg2 (by simp), ⟨_, by rw [show ((z + 1) + 1).toNat = (z + 1).toNat + 1 by omega]; exact ho2, by rw [← loS_next n1]; exact t.put 0 (by omega) (by omega)⟩, FB.out.grown hg2 FB.out.size (fun j hj => by cases hj; omega)⟩
      case measure => simp [intOf]; omega
    · have ez : z = x.l.hi + 1 := by omega
      subst ez
      have FM : Hid (Held wr (w.heap.size + 1) (x.u.lo + 1).toNat (upS x x.u.lo)) := by
        obtain ⟨D, ho, t⟩ := FM.out
        rw [← upS_start]
        exact ⟨D, ho.mono (by omega), t⟩
      clear hlt n1 n2
      go_wp2_with fail
      go_loopw [5] (fun nn wr => ∃ z : Int, nn = .int .i64 z ∧ x.u.lo ≤ z ∧ z ≤ x.u.hi + 1 ∧ NW wr w.heap.size x ∧ Held wr (w.heap.size + 1) (z + 1).toNat (upS x z) ∧ Below w.heap.size w wr) (fun nn _ => (x.u.hi + 1 - intOf nn).toNat)
      case atStart => exact ⟨x.u.lo, rfl, by omega, by omega, F0.out, FM.out, FB.out⟩
      case round =>
        obtain ⟨z, rfl, n1, n2, h0, h1, h2⟩ := hrel
        have F0 : Hid (NW wr w.heap.size x) := h0
        have FM : Hid (Held wr (w.heap.size + 1) (z + 1).toNat (upS x z)) := h1
        have FB : Hid (Below w.heap.size w wr) := h2
        clear h0 h1 h2
        clear x0_0 x0_1 x0_2 x0_3 y0_0 y0_1 y0_2 y0_3
        obtain ⟨x0_0, x0_1, x0_2, x0_3, y0_0, y0_1, y0_2, y0_3⟩ := F0.out
        by_cases hlt : z ≤ x.u.hi
        · have ez : IntKind.i64.wrap (z + 1) = z + 1 := IntWalk.i64_in _ (by omega)
          go_wp2_with (first | (go_at_call 65; refine (oneFloor_any z _).mono ?_; rintro e w1 ⟨rfl, hb⟩; have F0 : Hid (NW w1 w.heap.size x) := F0.out.below hb F0.out.lt; have FM : Hid (Held w1 (w.heap.size + 1) (z + 1).toNat (upS x z)) := FM.out.below hb FM.out.lt; have FB : Hid (Below w.heap.size w w1) := FB.out.trans (hb.mono FB.out.size); clear hb) | (at_mapUpdate; obtain ⟨D, ho, t⟩ := FM.out; refine wpList_mapUpdate_own _ rfl _ _ _ 65 rfl 27 2 lawM undT RI (w.heap.size + 1) (z + 1).toNat _ rfl ho (by unfold maxLen; omega) _ _ _ rfl rfl (keyOf_span (wf64 (by omega) (by omega)) (wf64 (by omega) (by omega))) (.lit (.int .i64 1)) [] (plainElem_int undI (wf64 (by omega) (by omega))) ?_; intro w2 ho2 hg2) | fail)
          go_roundw
          case rel => exact ⟨z + 1, rfl, by omega, by omega, F0.out.grown hg2 (by simp), ⟨_, by rw [show ((z + 1) + 1).toNat = (z + 1).toNat + 1 by omega]; exact ho2, by rw [← upS_next k n1]; exact t.put 1 (by omega) (by omega)⟩, FB.out.grown hg2 FB.out.size (fun j hj => by cases hj; omega)⟩
          case measure => simp [intOf]; omega
        · have ez : z = x.u.hi + 1 := by omega
          subst ez
          clear hlt n1 n2
          go_wp2_with fail
          go_ret
          exact ⟨_, _, rfl, by omega, by omega, FM.out, FB.out⟩
set_option maxRecDepth 20000 in
set_option maxHeartbeats 16000000 in
theorem giveBack_any (b n : Nat) (S : Int → Option Int) (cv : Ss) (hS : ∀ f c, S f = some c → -1 ≤ f ∧ f ≤ 1000) (hc : ∀ f c, S f = some c → c = 0 ∨ c = 1) (w : World) (hm : Held w b n S) :
    Calls Try.prog 37 #[.map (some b), .agg #[.int .i64 cv.l.lo, .int .i64 cv.l.hi, .int .i64 cv.u.lo, .int .i64 cv.u.hi]] w fun e w' => e = .returned (.tuple #[]) ∧ Held w' b n (cutM S cv) ∧ w.grownBy w' (some b) := by
  have HS : Hid (∀ f c, S f = some c → -1 ≤ f ∧ f ≤ 1000) := hS
  have HC : Hid (∀ f c, S f = some c → c = 0 ∨ c = 1) := hc
  clear hS hc
  have bl : b < w.heap.size := hm.lt
  have F0 : Hid (NW (w.alloc (.cells #[.int .i64 cv.l.lo, .int .i64 cv.l.hi, .int .i64 cv.u.lo, .int .i64 cv.u.hi] 69)) w.heap.size cv) := NW.at_ w cv _ _ rfl
  have FG : Hid (w.grownBy (w.alloc (.cells #[.int .i64 cv.l.lo, .int .i64 cv.l.hi, .int .i64 cv.u.lo, .int .i64 cv.u.hi] 69)) (some b)) := World.grownBy_alloc w _ _
  have es : (w.alloc (.cells #[.int .i64 cv.l.lo, .int .i64 cv.l.hi, .int .i64 cv.u.lo, .int .i64 cv.u.hi] 69)).heap.size = w.heap.size + 1 := by simp
  obtain ⟨D0, ho0, t0⟩ := hm.alloc (.cells #[.int .i64 cv.l.lo, .int .i64 cv.l.hi, .int .i64 cv.u.lo, .int .i64 cv.u.hi] 69)
  have HO0 : Hid ((w.alloc (.cells #[.int .i64 cv.l.lo, .int .i64 cv.l.hi, .int .i64 cv.u.lo, .int .i64 cv.u.hi] 69)).ownsMap Try.prog 27 RI b n D0) := ho0
  have HT0 : Hid (Told D0 S) := t0
  clear ho0 t0
  obtain ⟨W0, hW0⟩ : ∃ W0, W0 = (w.alloc (.cells #[.int .i64 cv.l.lo, .int .i64 cv.l.hi, .int .i64 cv.u.lo, .int .i64 cv.u.hi] 69)) := ⟨_, rfl⟩
  rw [← hW0] at F0 FG HO0 es
  have HES : Hid (W0.heap.size = w.heap.size + 1) := es
  clear es
  have HW0 : Hid (W0 = (w.alloc (.cells #[.int .i64 cv.l.lo, .int .i64 cv.l.hi, .int .i64 cv.u.lo, .int .i64 cv.u.hi] 69))) := hW0
  clear hW0
  go_enter Try.func37, Try.ntmps37
  go_upto_region 1 with fail
  rw [← HW0.out]
  clear HW0
  go_wp2_with (first | (at_range; refine wpList_range_own _ rfl _ 65 rfl 27 2 lawM undT RI b n D0 rfl HO0.out ?_; intro w0 hrg0 hg0 hs0) | fail)
  have F0 : Hid (NW w0 w.heap.size cv) := F0.out.grown hg0 (by simp)
  have FG : Hid (w.grownBy w0 (some b)) := FG.out.andThen hg0 (fun j hj => by cases hj)
  go_frame
  go_loopw [5] (fun _ wr => ∃ (left : Lit → Bool) (cnt : Nat) (D : DataW Unit), wr.ranges Try.prog 27 RI b W0.heap.size n D left cnt ∧ Told D (midS S cv left) ∧ NW wr w.heap.size cv ∧ w.grownBy wr (some b)) (fun _ wr => wr.rangeLeft b W0.heap.size)
  case atStart => exact ⟨_, _, _, hrg0, by rw [mid_start HT0.out]; exact HT0.out, F0.out, FG.out⟩
  case round =>
    obtain ⟨left, cnt, D, hrg, ht, h0, h1⟩ := hrel
    clear hrg0 hg0 HO0 HT0
    have HT : Hid (Told D (midS S cv left)) := ht
    clear ht
    go_wp2_with (first | (at_next; refine wpList_next_ranges _ rfl _ rfl 27 lawM RI (fun p : Int × Int => .agg #[.int .i64 p.1, .int .i64 p.2]) (fun c : Int => .int .i64 c) (fun key kl hk => by obtain ⟨a, b, e, _⟩ := keyOf_span_inv hk; exact ⟨(a, b), e⟩) (fun v y hv => by obtain ⟨c, e, _⟩ := plainElem_int_inv undI hv; exact ⟨c, e⟩) b W0.heap.size n D left cnt rfl hrg ?_ ?_) | fail)
    · intro _ hl0
      go_wp2_with fail
      go_end0
      exact ⟨rfl, ⟨D, hrg.owns, by rw [← mid_end hl0]; exact HT.out⟩, h1⟩
    · intro f f' c kl y1 y2 w1 cnt1 hkey hlk hv hat hrg1 hlt hg1 hs1 hen
      try dsimp only at hkey hv hen
      obtain ⟨ef, ek, eS, d1, d2⟩ := told_step HT.out hkey hv hat
      have ef2 := ef.symm
      clear ef
      subst ef2
      subst ek
      have HE : Hid (S f = some c) := mid_of eS
      have HF : Hid (-1 ≤ f ∧ f ≤ 1000) := ⟨d1, d2⟩
      have hcc := HC.out f c HE.out
      have F0 : Hid (NW w1 w.heap.size cv) := h0.grown hg1 (by simp [HES.out])
      have FG : Hid (w.grownBy w1 (some b)) := h1.andThen hg1 (fun j hj => by cases hj; exact Or.inl (by rw [HES.out]; omega))
      have hsz : w.heap.size + 1 < w1.heap.size := by rw [hs1, ← HES.out]; exact hrg.lt
      clear h0 h1 eS d1 d2 hv hat hlk hg1 hs1
      try dsimp only
      go_wp2_with fail
      obtain ⟨fb, hfb⟩ : ∃ fb, fb = w1.heap.size := ⟨_, rfl⟩
      obtain ⟨W1, hW1⟩ : ∃ W1, W1 = w1.alloc (.cells #[.int .i64 f, .int .i64 f] 27) := ⟨_, rfl⟩
      have F0 : Hid (NW W1 w.heap.size cv) := by rw [hW1]; exact F0.out.alloc _
      have F1 : Hid (MW W1 fb (⟨f, f⟩ : Sp)) := by rw [hW1]; exact MW.at_ w1 ⟨f, f⟩ _ fb hfb
      have FR : Hid (W1.ranges Try.prog 27 RI b W0.heap.size n D (fun z => left z && !z.sameKey (key2 f f)) cnt1) := by rw [hW1]; exact hrg1.alloc _
      have FG : Hid (w.grownBy W1 (some b)) := by rw [hW1]; exact FG.out.andThen (World.grownBy_alloc _ _ none) (fun j hj => by cases hj)
      have lfb : w.heap.size + 1 < fb := by rw [hfb]; exact hsz
      rw [← hW1, ← hfb]
      clear hW1 hfb hsz hrg1 hen
      rcases hcc with rfl | rfl
      · by_cases c1 : f < cv.l.lo
        · have b1 : decide (f < cv.l.lo) = true := decide_eq_true c1
          have ki : inCB cv 0 f = false := by unfold inCB; simp [c1]
          clear c1
          have F0 : Hid (NW W1.drew w.heap.size cv) := F0.out.below (Below.refl _ _).drew F0.out.lt
          have F1 : Hid (MW W1.drew fb (⟨f, f⟩ : Sp)) := F1.out.below (Below.refl _ _).drew F1.out.lt
          have FR : Hid (W1.drew.ranges Try.prog 27 RI b W0.heap.size n D (fun z => left z && !z.sameKey (key2 f f)) cnt1) := rng_drew FR.out
          have FG : Hid (w.grownBy W1.drew (some b)) := grown_drew FG.out
          have m0 := F0.out.c0
          have m1 := F0.out.c1
          have m2 := F0.out.c2
          have m3 := F0.out.c3
          have m4 := F1.out.c0
          have m5 := F1.out.c1
          refine wp_region_held_drew (S := (fun w'' => w''.cell? ⟨w.heap.size, 0, none⟩ = some (.int .i64 cv.l.lo) ∧ w''.cell? ⟨w.heap.size, 1, none⟩ = some (.int .i64 cv.l.hi) ∧ w''.cell? ⟨w.heap.size, 2, none⟩ = some (.int .i64 cv.u.lo) ∧ w''.cell? ⟨w.heap.size, 3, none⟩ = some (.int .i64 cv.u.hi) ∧ w''.cell? ⟨fb, 0, none⟩ = some (.int .i64 f) ∧ w''.cell? ⟨fb, 1, none⟩ = some (.int .i64 f))) (by kernel_rfl) (by (try dsimp only); first | exact ⟨m0, m1, m2, m3, m4, m5⟩ | go_keep) (fun hHeld => ?_)
          obtain ⟨v_1, hw1⟩ : ∃ v_1, v_1 = W1.drew := ⟨_, rfl⟩
          have F0 : Hid (NW v_1 w.heap.size cv) := by rw [hw1]; exact F0.out
          have F1 : Hid (MW v_1 fb (⟨f, f⟩ : Sp)) := by rw [hw1]; exact F1.out
          have FR : Hid (v_1.ranges Try.prog 27 RI b W0.heap.size n D (fun z => left z && !z.sameKey (key2 f f)) cnt1) := by rw [hw1]; exact FR.out
          have FG : Hid (w.grownBy v_1 (some b)) := by rw [hw1]; exact FG.out
          rw [← hw1] at hHeld ⊢
          clear hw1
          have m0 := F0.out.c0
          have m1 := F0.out.c1
          have m2 := F0.out.c2
          have m3 := F0.out.c3
          have m4 := F1.out.c0
          have m5 := F1.out.c1
          refine tkz 0 rfl ?_
          refine tkz 1 rfl ?_
          refine tkz 2 rfl ?_
          refine tkz 3 rfl ?_
          refine tkz 4 rfl ?_
          refine tkz 5 rfl ?_
          refine tkz 6 rfl ?_
          refine tkz 7 rfl ?_
          refine tbz 8 rfl ?_
          refine tbz 9 rfl ?_
          refine tbz 10 rfl ?_
          refine tbz 11 rfl ?_
          refine tbz 12 rfl ?_
          refine tbz 13 rfl ?_
          refine tbz 14 rfl ?_
          refine tkz 15 rfl ?_
          refine wpAnyH_done (by kernel_rfl) ?_ _
          go_wp2_with (first | (at_delete; refine wpList_delete_ranges _ rfl _ _ 65 27 rfl 2 lawM undT _ b W0.heap.size n _ _ _ rfl FR.out _ _ rfl hkey ?_; intro w2 cnt2 hrg2 hle hturn; go_frame) | fail)
          rw [strike_twice] at hrg2
          go_roundw
          case rel => exact ⟨_, cnt2, _, hrg2, by rw [← mid_drop HS.out HE.out ki]; exact HT.out.del HF.out.1 HF.out.2, F0.out.grown hturn.grown (by simp; omega), FG.out.andThen hturn.grown (fun j hj => by cases hj; exact Or.inr rfl)⟩
          case measure => rw [hrg2.left_eq, hrg.left_eq]; omega
        · have b1 : decide (f < cv.l.lo) = false := decide_eq_false c1
          by_cases c2 : cv.l.hi < f
          · have b2 : decide (cv.l.hi < f) = true := decide_eq_true c2
            have ki : inCB cv 0 f = false := by unfold inCB; simp [c2]
            clear c1 c2
            have F0 : Hid (NW W1.drew w.heap.size cv) := F0.out.below (Below.refl _ _).drew F0.out.lt
            have F1 : Hid (MW W1.drew fb (⟨f, f⟩ : Sp)) := F1.out.below (Below.refl _ _).drew F1.out.lt
            have FR : Hid (W1.drew.ranges Try.prog 27 RI b W0.heap.size n D (fun z => left z && !z.sameKey (key2 f f)) cnt1) := rng_drew FR.out
            have FG : Hid (w.grownBy W1.drew (some b)) := grown_drew FG.out
            have m0 := F0.out.c0
            have m1 := F0.out.c1
            have m2 := F0.out.c2
            have m3 := F0.out.c3
            have m4 := F1.out.c0
            have m5 := F1.out.c1
            refine wp_region_held_drew (S := (fun w'' => w''.cell? ⟨w.heap.size, 0, none⟩ = some (.int .i64 cv.l.lo) ∧ w''.cell? ⟨w.heap.size, 1, none⟩ = some (.int .i64 cv.l.hi) ∧ w''.cell? ⟨w.heap.size, 2, none⟩ = some (.int .i64 cv.u.lo) ∧ w''.cell? ⟨w.heap.size, 3, none⟩ = some (.int .i64 cv.u.hi) ∧ w''.cell? ⟨fb, 0, none⟩ = some (.int .i64 f) ∧ w''.cell? ⟨fb, 1, none⟩ = some (.int .i64 f))) (by kernel_rfl) (by (try dsimp only); first | exact ⟨m0, m1, m2, m3, m4, m5⟩ | go_keep) (fun hHeld => ?_)
            obtain ⟨v_2, hw1⟩ : ∃ v_2, v_2 = W1.drew := ⟨_, rfl⟩
            have F0 : Hid (NW v_2 w.heap.size cv) := by rw [hw1]; exact F0.out
            have F1 : Hid (MW v_2 fb (⟨f, f⟩ : Sp)) := by rw [hw1]; exact F1.out
            have FR : Hid (v_2.ranges Try.prog 27 RI b W0.heap.size n D (fun z => left z && !z.sameKey (key2 f f)) cnt1) := by rw [hw1]; exact FR.out
            have FG : Hid (w.grownBy v_2 (some b)) := by rw [hw1]; exact FG.out
            rw [← hw1] at hHeld ⊢
            clear hw1
            have m0 := F0.out.c0
            have m1 := F0.out.c1
            have m2 := F0.out.c2
            have m3 := F0.out.c3
            have m4 := F1.out.c0
            have m5 := F1.out.c1
            refine tkz 0 rfl ?_
            refine tkz 1 rfl ?_
            refine tkz 2 rfl ?_
            refine tkz 3 rfl ?_
            refine tkz 4 rfl ?_
            refine tkz 5 rfl ?_
            refine tkz 6 rfl ?_
            refine tkz 7 rfl ?_
            refine tkz 8 rfl ?_
            refine tkz 9 rfl ?_
            refine tkz 10 rfl ?_
            refine tkz 11 rfl ?_
            refine tkz 12 rfl ?_
            refine tkz 13 rfl ?_
            refine tkz 14 rfl ?_
            refine tkz 15 rfl ?_
            refine wpAnyH_done (by kernel_rfl) ?_ _
            go_wp2_with (first | (at_delete; refine wpList_delete_ranges _ rfl _ _ 65 27 rfl 2 lawM undT _ b W0.heap.size n _ _ _ rfl FR.out _ _ rfl hkey ?_; intro w2 cnt2 hrg2 hle hturn; go_frame) | fail)
            rw [strike_twice] at hrg2
            go_roundw
            case rel => exact ⟨_, cnt2, _, hrg2, by rw [← mid_drop HS.out HE.out ki]; exact HT.out.del HF.out.1 HF.out.2, F0.out.grown hturn.grown (by simp; omega), FG.out.andThen hturn.grown (fun j hj => by cases hj; exact Or.inr rfl)⟩
            case measure => rw [hrg2.left_eq, hrg.left_eq]; omega
          · have b2 : decide (cv.l.hi < f) = false := decide_eq_false c2
            have ki : inCB cv 0 f = true := by unfold inCB; simp; omega
            clear c1 c2
            have F0 : Hid (NW W1.drew w.heap.size cv) := F0.out.below (Below.refl _ _).drew F0.out.lt
            have F1 : Hid (MW W1.drew fb (⟨f, f⟩ : Sp)) := F1.out.below (Below.refl _ _).drew F1.out.lt
            have FR : Hid (W1.drew.ranges Try.prog 27 RI b W0.heap.size n D (fun z => left z && !z.sameKey (key2 f f)) cnt1) := rng_drew FR.out
            have FG : Hid (w.grownBy W1.drew (some b)) := grown_drew FG.out
            have m0 := F0.out.c0
            have m1 := F0.out.c1
            have m2 := F0.out.c2
            have m3 := F0.out.c3
            have m4 := F1.out.c0
            have m5 := F1.out.c1
            refine wp_region_held_drew (S := (fun w'' => w''.cell? ⟨w.heap.size, 0, none⟩ = some (.int .i64 cv.l.lo) ∧ w''.cell? ⟨w.heap.size, 1, none⟩ = some (.int .i64 cv.l.hi) ∧ w''.cell? ⟨w.heap.size, 2, none⟩ = some (.int .i64 cv.u.lo) ∧ w''.cell? ⟨w.heap.size, 3, none⟩ = some (.int .i64 cv.u.hi) ∧ w''.cell? ⟨fb, 0, none⟩ = some (.int .i64 f) ∧ w''.cell? ⟨fb, 1, none⟩ = some (.int .i64 f))) (by kernel_rfl) (by (try dsimp only); first | exact ⟨m0, m1, m2, m3, m4, m5⟩ | go_keep) (fun hHeld => ?_)
            obtain ⟨v_3, hw1⟩ : ∃ v_3, v_3 = W1.drew := ⟨_, rfl⟩
            have F0 : Hid (NW v_3 w.heap.size cv) := by rw [hw1]; exact F0.out
            have F1 : Hid (MW v_3 fb (⟨f, f⟩ : Sp)) := by rw [hw1]; exact F1.out
            have FR : Hid (v_3.ranges Try.prog 27 RI b W0.heap.size n D (fun z => left z && !z.sameKey (key2 f f)) cnt1) := by rw [hw1]; exact FR.out
            have FG : Hid (w.grownBy v_3 (some b)) := by rw [hw1]; exact FG.out
            rw [← hw1] at hHeld ⊢
            clear hw1
            have m0 := F0.out.c0
            have m1 := F0.out.c1
            have m2 := F0.out.c2
            have m3 := F0.out.c3
            have m4 := F1.out.c0
            have m5 := F1.out.c1
            refine tkz 0 rfl ?_
            refine tkz 1 rfl ?_
            refine tkz 2 rfl ?_
            refine tkz 3 rfl ?_
            refine tkz 4 rfl ?_
            refine tkz 5 rfl ?_
            refine tkz 6 rfl ?_
            refine tkz 7 rfl ?_
            refine tkz 8 rfl ?_
            refine tkz 9 rfl ?_
            refine tkz 10 rfl ?_
            refine tkz 11 rfl ?_
            refine tkz 12 rfl ?_
            refine tkz 13 rfl ?_
            refine tkz 14 rfl ?_
            refine tkz 15 rfl ?_
            refine wpAnyH_done (by kernel_rfl) ?_ _
            go_wp2_with fail
            go_roundw
            case rel => exact ⟨_, cnt1, _, FR.out, by rw [mid_keep HS.out HE.out ki]; exact HT.out, F0.out, FG.out⟩
            case measure => rw [FR.out.left_eq, hrg.left_eq]; exact hlt
      · by_cases c1 : f < cv.u.lo
        · have b1 : decide (f < cv.u.lo) = true := decide_eq_true c1
          have ki : inCB cv 1 f = false := by unfold inCB; simp [c1]
          clear c1
          have F0 : Hid (NW W1.drew w.heap.size cv) := F0.out.below (Below.refl _ _).drew F0.out.lt
          have F1 : Hid (MW W1.drew fb (⟨f, f⟩ : Sp)) := F1.out.below (Below.refl _ _).drew F1.out.lt
          have FR : Hid (W1.drew.ranges Try.prog 27 RI b W0.heap.size n D (fun z => left z && !z.sameKey (key2 f f)) cnt1) := rng_drew FR.out
          have FG : Hid (w.grownBy W1.drew (some b)) := grown_drew FG.out
          have m0 := F0.out.c0
          have m1 := F0.out.c1
          have m2 := F0.out.c2
          have m3 := F0.out.c3
          have m4 := F1.out.c0
          have m5 := F1.out.c1
          refine wp_region_held_drew (S := (fun w'' => w''.cell? ⟨w.heap.size, 0, none⟩ = some (.int .i64 cv.l.lo) ∧ w''.cell? ⟨w.heap.size, 1, none⟩ = some (.int .i64 cv.l.hi) ∧ w''.cell? ⟨w.heap.size, 2, none⟩ = some (.int .i64 cv.u.lo) ∧ w''.cell? ⟨w.heap.size, 3, none⟩ = some (.int .i64 cv.u.hi) ∧ w''.cell? ⟨fb, 0, none⟩ = some (.int .i64 f) ∧ w''.cell? ⟨fb, 1, none⟩ = some (.int .i64 f))) (by kernel_rfl) (by (try dsimp only); first | exact ⟨m0, m1, m2, m3, m4, m5⟩ | go_keep) (fun hHeld => ?_)
          obtain ⟨v_4, hw1⟩ : ∃ v_4, v_4 = W1.drew := ⟨_, rfl⟩
          have F0 : Hid (NW v_4 w.heap.size cv) := by rw [hw1]; exact F0.out
          have F1 : Hid (MW v_4 fb (⟨f, f⟩ : Sp)) := by rw [hw1]; exact F1.out
          have FR : Hid (v_4.ranges Try.prog 27 RI b W0.heap.size n D (fun z => left z && !z.sameKey (key2 f f)) cnt1) := by rw [hw1]; exact FR.out
          have FG : Hid (w.grownBy v_4 (some b)) := by rw [hw1]; exact FG.out
          rw [← hw1] at hHeld ⊢
          clear hw1
          have m0 := F0.out.c0
          have m1 := F0.out.c1
          have m2 := F0.out.c2
          have m3 := F0.out.c3
          have m4 := F1.out.c0
          have m5 := F1.out.c1
          refine tkz 0 rfl ?_
          refine tkz 1 rfl ?_
          refine tkz 2 rfl ?_
          refine tkz 3 rfl ?_
          refine tkz 4 rfl ?_
          refine tkz 5 rfl ?_
          refine tkz 6 rfl ?_
          refine tkz 7 rfl ?_
          refine tbz 8 rfl ?_
          refine tbz 9 rfl ?_
          refine tbz 10 rfl ?_
          refine tbz 11 rfl ?_
          refine tbz 12 rfl ?_
          refine tbz 13 rfl ?_
          refine tbz 14 rfl ?_
          refine tkz 15 rfl ?_
          refine wpAnyH_done (by kernel_rfl) ?_ _
          go_wp2_with (first | (at_delete; refine wpList_delete_ranges _ rfl _ _ 65 27 rfl 2 lawM undT _ b W0.heap.size n _ _ _ rfl FR.out _ _ rfl hkey ?_; intro w2 cnt2 hrg2 hle hturn; go_frame) | fail)
          rw [strike_twice] at hrg2
          go_roundw
          case rel => exact ⟨_, cnt2, _, hrg2, by rw [← mid_drop HS.out HE.out ki]; exact HT.out.del HF.out.1 HF.out.2, F0.out.grown hturn.grown (by simp; omega), FG.out.andThen hturn.grown (fun j hj => by cases hj; exact Or.inr rfl)⟩
          case measure => rw [hrg2.left_eq, hrg.left_eq]; omega
        · have b1 : decide (f < cv.u.lo) = false := decide_eq_false c1
          by_cases c2 : cv.u.hi < f
          · have b2 : decide (cv.u.hi < f) = true := decide_eq_true c2
            have ki : inCB cv 1 f = false := by unfold inCB; simp [c2]
            clear c1 c2
            have F0 : Hid (NW W1.drew w.heap.size cv) := F0.out.below (Below.refl _ _).drew F0.out.lt
            have F1 : Hid (MW W1.drew fb (⟨f, f⟩ : Sp)) := F1.out.below (Below.refl _ _).drew F1.out.lt
            have FR : Hid (W1.drew.ranges Try.prog 27 RI b W0.heap.size n D (fun z => left z && !z.sameKey (key2 f f)) cnt1) := rng_drew FR.out
            have FG : Hid (w.grownBy W1.drew (some b)) := grown_drew FG.out
            have m0 := F0.out.c0
            have m1 := F0.out.c1
            have m2 := F0.out.c2
            have m3 := F0.out.c3
            have m4 := F1.out.c0
            have m5 := F1.out.c1
            refine wp_region_held_drew (S := (fun w'' => w''.cell? ⟨w.heap.size, 0, none⟩ = some (.int .i64 cv.l.lo) ∧ w''.cell? ⟨w.heap.size, 1, none⟩ = some (.int .i64 cv.l.hi) ∧ w''.cell? ⟨w.heap.size, 2, none⟩ = some (.int .i64 cv.u.lo) ∧ w''.cell? ⟨w.heap.size, 3, none⟩ = some (.int .i64 cv.u.hi) ∧ w''.cell? ⟨fb, 0, none⟩ = some (.int .i64 f) ∧ w''.cell? ⟨fb, 1, none⟩ = some (.int .i64 f))) (by kernel_rfl) (by (try dsimp only); first | exact ⟨m0, m1, m2, m3, m4, m5⟩ | go_keep) (fun hHeld => ?_)
            obtain ⟨v_5, hw1⟩ : ∃ v_5, v_5 = W1.drew := ⟨_, rfl⟩
            have F0 : Hid (NW v_5 w.heap.size cv) := by rw [hw1]; exact F0.out
            have F1 : Hid (MW v_5 fb (⟨f, f⟩ : Sp)) := by rw [hw1]; exact F1.out
            have FR : Hid (v_5.ranges Try.prog 27 RI b W0.heap.size n D (fun z => left z && !z.sameKey (key2 f f)) cnt1) := by rw [hw1]; exact FR.out
            have FG : Hid (w.grownBy v_5 (some b)) := by rw [hw1]; exact FG.out
            rw [← hw1] at hHeld ⊢
            clear hw1
            have m0 := F0.out.c0
            have m1 := F0.out.c1
            have m2 := F0.out.c2
            have m3 := F0.out.c3
            have m4 := F1.out.c0
            have m5 := F1.out.c1
            refine tkz 0 rfl ?_
            refine tkz 1 rfl ?_
            refine tkz 2 rfl ?_
            refine tkz 3 rfl ?_
            refine tkz 4 rfl ?_
            refine tkz 5 rfl ?_
            refine tkz 6 rfl ?_
            refine tkz 7 rfl ?_
            refine tkz 8 rfl ?_
            refine tkz 9 rfl ?_
            refine tkz 10 rfl ?_
            refine tkz 11 rfl ?_
            refine tkz 12 rfl ?_
            refine tkz 13 rfl ?_
            refine tkz 14 rfl ?_
            refine tkz 15 rfl ?_
            refine wpAnyH_done (by kernel_rfl) ?_ _
            go_wp2_with (first | (at_delete; refine wpList_delete_ranges _ rfl _ _ 65 27 rfl 2 lawM undT _ b W0.heap.size n _ _ _ rfl FR.out _ _ rfl hkey ?_; intro w2 cnt2 hrg2 hle hturn; go_frame) | fail)
            rw [strike_twice] at hrg2
            go_roundw
            case rel => exact ⟨_, cnt2, _, hrg2, by rw [← mid_drop HS.out HE.out ki]; exact HT.out.del HF.out.1 HF.out.2, F0.out.grown hturn.grown (by simp; omega), FG.out.andThen hturn.grown (fun j hj => by cases hj; exact Or.inr rfl)⟩
            case measure => rw [hrg2.left_eq, hrg.left_eq]; omega
          · have b2 : decide (cv.u.hi < f) = false := decide_eq_false c2
            have ki : inCB cv 1 f = true := by unfold inCB; simp; omega
            clear c1 c2
            have F0 : Hid (NW W1.drew w.heap.size cv) := F0.out.below (Below.refl _ _).drew F0.out.lt
            have F1 : Hid (MW W1.drew fb (⟨f, f⟩ : Sp)) := F1.out.below (Below.refl _ _).drew F1.out.lt
            have FR : Hid (W1.drew.ranges Try.prog 27 RI b W0.heap.size n D (fun z => left z && !z.sameKey (key2 f f)) cnt1) := rng_drew FR.out
            have FG : Hid (w.grownBy W1.drew (some b)) := grown_drew FG.out
            have m0 := F0.out.c0
            have m1 := F0.out.c1
            have m2 := F0.out.c2
            have m3 := F0.out.c3
            have m4 := F1.out.c0
            have m5 := F1.out.c1
            refine wp_region_held_drew (S := (fun w'' => w''.cell? ⟨w.heap.size, 0, none⟩ = some (.int .i64 cv.l.lo) ∧ w''.cell? ⟨w.heap.size, 1, none⟩ = some (.int .i64 cv.l.hi) ∧ w''.cell? ⟨w.heap.size, 2, none⟩ = some (.int .i64 cv.u.lo) ∧ w''.cell? ⟨w.heap.size, 3, none⟩ = some (.int .i64 cv.u.hi) ∧ w''.cell? ⟨fb, 0, none⟩ = some (.int .i64 f) ∧ w''.cell? ⟨fb, 1, none⟩ = some (.int .i64 f))) (by kernel_rfl) (by (try dsimp only); first | exact ⟨m0, m1, m2, m3, m4, m5⟩ | go_keep) (fun hHeld => ?_)
            obtain ⟨v_6, hw1⟩ : ∃ v_6, v_6 = W1.drew := ⟨_, rfl⟩
            have F0 : Hid (NW v_6 w.heap.size cv) := by rw [hw1]; exact F0.out
            have F1 : Hid (MW v_6 fb (⟨f, f⟩ : Sp)) := by rw [hw1]; exact F1.out
            have FR : Hid (v_6.ranges Try.prog 27 RI b W0.heap.size n D (fun z => left z && !z.sameKey (key2 f f)) cnt1) := by rw [hw1]; exact FR.out
            have FG : Hid (w.grownBy v_6 (some b)) := by rw [hw1]; exact FG.out
            rw [← hw1] at hHeld ⊢
            clear hw1
            have m0 := F0.out.c0
            have m1 := F0.out.c1
            have m2 := F0.out.c2
            have m3 := F0.out.c3
            have m4 := F1.out.c0
            have m5 := F1.out.c1
            refine tkz 0 rfl ?_
            refine tkz 1 rfl ?_
            refine tkz 2 rfl ?_
            refine tkz 3 rfl ?_
            refine tkz 4 rfl ?_
            refine tkz 5 rfl ?_
            refine tkz 6 rfl ?_
            refine tkz 7 rfl ?_
            refine tkz 8 rfl ?_
            refine tkz 9 rfl ?_
            refine tkz 10 rfl ?_
            refine tkz 11 rfl ?_
            refine tkz 12 rfl ?_
            refine tkz 13 rfl ?_
            refine tkz 14 rfl ?_
            refine tkz 15 rfl ?_
            refine wpAnyH_done (by kernel_rfl) ?_ _
            go_wp2_with fail
            go_roundw
            case rel => exact ⟨_, cnt1, _, FR.out, by rw [mid_keep HS.out HE.out ki]; exact HT.out, F0.out, FG.out⟩
            case measure => rw [FR.out.left_eq, hrg.left_eq]; exact hlt
theorem grown_set (w : World) (p : Addr) (v : Value) : w.grownBy (w.setCell p v) (some p.block) := by
  refine ⟨rfl, rfl, rfl, by simp [World.setCell], fun i _ hne => ?_⟩
  exact Below.heap_setCell _ _ _ _ (fun e => hne (by rw [e]))
set_option maxRecDepth 20000 in
set_option maxHeartbeats 16000000 in
theorem leftTo_any (b n : Nat) (S : Int → Option Int) (car : Int) (had : Sp) (hS : ∀ f c, S f = some c → -1 ≤ f ∧ f ≤ 1000) (w : World) (hm : Held w b n S) :
    Calls Try.prog 39 #[.map (some b), .int .i64 car, .agg #[.int .i64 had.lo, .int .i64 had.hi]] w fun e w' => ∃ g left, LeftI S car had left g ∧ (∀ kl, left kl = false) ∧ e = .returned (.agg #[.int .i64 (keptS had g).lo, .int .i64 (keptS had g).hi]) ∧ Below w.heap.size w w' := by
  have HS : Hid (∀ f c, S f = some c → -1 ≤ f ∧ f ≤ 1000) := hS
  clear hS
  have bl : b < w.heap.size := hm.lt
  have F0 : Hid (MW (((w.alloc (.cells #[.int .i64 had.lo, .int .i64 had.hi] 27)).alloc (.cells #[.int .i64 0, .int .i64 0] 27)).alloc (.cells #[.int .i64 had.hi, .int .i64 had.lo] 27)) w.heap.size had) := ((MW.at_ w had _ _ rfl).alloc _).alloc _
  have F1 : Hid (MW (((w.alloc (.cells #[.int .i64 had.lo, .int .i64 had.hi] 27)).alloc (.cells #[.int .i64 0, .int .i64 0] 27)).alloc (.cells #[.int .i64 had.hi, .int .i64 had.lo] 27)) (w.heap.size + 1) (⟨0, 0⟩ : Sp)) := (MW.at_ _ ⟨0, 0⟩ _ _ (by simp)).alloc _
  have F2 : Hid (MW (((w.alloc (.cells #[.int .i64 had.lo, .int .i64 had.hi] 27)).alloc (.cells #[.int .i64 0, .int .i64 0] 27)).alloc (.cells #[.int .i64 had.hi, .int .i64 had.lo] 27)) (w.heap.size + 2) (⟨had.hi, had.lo⟩ : Sp)) := MW.at_ _ ⟨had.hi, had.lo⟩ _ _ (by simp)
  have FB : Hid (Below w.heap.size w (((w.alloc (.cells #[.int .i64 had.lo, .int .i64 had.hi] 27)).alloc (.cells #[.int .i64 0, .int .i64 0] 27)).alloc (.cells #[.int .i64 had.hi, .int .i64 had.lo] 27))) := (((Below.refl _ _).alloc (Nat.le_refl _) _).alloc (by simp) _).alloc (by simp; omega) _
  have es : (((w.alloc (.cells #[.int .i64 had.lo, .int .i64 had.hi] 27)).alloc (.cells #[.int .i64 0, .int .i64 0] 27)).alloc (.cells #[.int .i64 had.hi, .int .i64 had.lo] 27)).heap.size = w.heap.size + 3 := by simp
  obtain ⟨D, ho0, t0⟩ := ((hm.alloc (.cells #[.int .i64 had.lo, .int .i64 had.hi] 27)).alloc (.cells #[.int .i64 0, .int .i64 0] 27)).alloc (.cells #[.int .i64 had.hi, .int .i64 had.lo] 27)
  have HO0 : Hid ((((w.alloc (.cells #[.int .i64 had.lo, .int .i64 had.hi] 27)).alloc (.cells #[.int .i64 0, .int .i64 0] 27)).alloc (.cells #[.int .i64 had.hi, .int .i64 had.lo] 27)).ownsMap Try.prog 27 RI b n D) := ho0
  have HT : Hid (Told D S) := t0
  clear ho0 t0
  obtain ⟨W0, hW0⟩ : ∃ W0, W0 = (((w.alloc (.cells #[.int .i64 had.lo, .int .i64 had.hi] 27)).alloc (.cells #[.int .i64 0, .int .i64 0] 27)).alloc (.cells #[.int .i64 had.hi, .int .i64 had.lo] 27)) := ⟨_, rfl⟩
  rw [← hW0] at F0 F1 F2 FB HO0 es
  have HES : Hid (W0.heap.size = w.heap.size + 3) := es
  clear es
  have HW0 : Hid (W0 = (((w.alloc (.cells #[.int .i64 had.lo, .int .i64 had.hi] 27)).alloc (.cells #[.int .i64 0, .int .i64 0] 27)).alloc (.cells #[.int .i64 had.hi, .int .i64 had.lo] 27))) := hW0
  clear hW0
  go_enter Try.func39, Try.ntmps39
  go_upto_region 2 with fail
  rw [← HW0.out]
  clear HW0
  go_wp2_with (first | (at_range; refine wpList_range_own _ rfl _ 65 rfl 27 2 lawM undT RI b n D rfl HO0.out ?_; intro w0 hrg0 hg0 hs0) | fail)
  have F0 : Hid (MW w0 w.heap.size had) := F0.out.grown hg0 (by simp)
  have F1 : Hid (MW w0 (w.heap.size + 1) (⟨0, 0⟩ : Sp)) := F1.out.grown hg0 (by simp)
  have F2 : Hid (MW w0 (w.heap.size + 2) (⟨had.hi, had.lo⟩ : Sp)) := F2.out.grown hg0 (by simp)
  have FB : Hid (Below w.heap.size w w0) := FB.out.grown hg0 FB.out.size (fun j hj => by cases hj)
  go_frame
  go_loopw [9] (fun _ wr => ∃ (left : Lit → Bool) (cnt : Nat) (g : Sp), wr.ranges Try.prog 27 RI b W0.heap.size n D left cnt ∧ LeftI S car had left g ∧ MW wr w.heap.size had ∧ MW wr (w.heap.size + 1) (⟨0, 0⟩ : Sp) ∧ MW wr (w.heap.size + 2) g ∧ Below w.heap.size w wr) (fun _ wr => wr.rangeLeft b W0.heap.size)
  case atStart => exact ⟨_, _, _, hrg0, left_start HT.out car had, F0.out, F1.out, F2.out, FB.out⟩
  case round =>
    obtain ⟨left, cnt, g, hrg, hl, h0, h1, h2, h3⟩ := hrel
    clear hrg0 hg0 HO0
    have HG : Hid (LeftI S car had left g) := hl
    have F0 : Hid (MW wr w.heap.size had) := h0
    have F1 : Hid (MW wr (w.heap.size + 1) (⟨0, 0⟩ : Sp)) := h1
    have F2 : Hid (MW wr (w.heap.size + 2) g) := h2
    have FB : Hid (Below w.heap.size w wr) := h3
    clear hl h0 h1 h2 h3
    go_wp2_with (first | (at_next; refine wpList_next_ranges _ rfl _ rfl 27 lawM RI (fun p : Int × Int => .agg #[.int .i64 p.1, .int .i64 p.2]) (fun c : Int => .int .i64 c) (fun key kl hk => by obtain ⟨a, b, e, _⟩ := keyOf_span_inv hk; exact ⟨(a, b), e⟩) (fun v y hv => by obtain ⟨c, e, _⟩ := plainElem_int_inv undI hv; exact ⟨c, e⟩) b W0.heap.size n D left cnt rfl hrg ?_ ?_) | fail)
    · intro _ hl0
      obtain ⟨x2_0, x2_1, y2_0, y2_1⟩ := F2.out
      by_cases c1 : g.hi < g.lo
      · have b1 : decide (g.hi < g.lo) = true := decide_eq_true c1
        have HV : Hid (Ending.returned (.agg #[.int .i64 had.lo, .int .i64 had.hi]) = .returned (.agg #[.int .i64 (keptS had g).lo, .int .i64 (keptS had g).hi])) := by
          unfold keptS; rw [if_pos c1]; exact rfl
        obtain ⟨x0_0, x0_1, y0_0, y0_1⟩ := F0.out
        obtain ⟨x1_0, x1_1, y1_0, y1_1⟩ := F1.out
        try dsimp only at x1_0 x1_1
        go_wp2_with fail
        change bodyPost _ _ _ _ _ (putM wr (w.heap.size + 1) had)
        obtain ⟨Wf, hWf⟩ : ∃ Wf, putM wr (w.heap.size + 1) had = Wf := ⟨_, rfl⟩
        have HRf : MW Wf (w.heap.size + 1) had := hWf ▸ F1.out.put _
        have HBf : Below w.heap.size w Wf := hWf ▸ below_putM FB.out (by omega) _
        rw [hWf]
        clear hWf
        obtain ⟨d0, d1, -, -⟩ := HRf
        exact bodyPost_ret (v := .agg #[.int .i64 had.lo, .int .i64 had.hi]) (by simp [results, Try.results39, go_sem, d0, d1]) rfl ⟨g, _, HG.out, hl0, HV.out, HBf⟩
      · have b1 : decide (g.hi < g.lo) = false := decide_eq_false c1
        have HV : Hid (Ending.returned (.agg #[.int .i64 g.lo, .int .i64 g.hi]) = .returned (.agg #[.int .i64 (keptS had g).lo, .int .i64 (keptS had g).hi])) := by
          unfold keptS; rw [if_neg c1]; exact rfl
        obtain ⟨x1_0, x1_1, y1_0, y1_1⟩ := F1.out
        try dsimp only at x1_0 x1_1
        go_wp2_with fail
        change bodyPost _ _ _ _ _ (putM wr (w.heap.size + 1) g)
        obtain ⟨Wf, hWf⟩ : ∃ Wf, putM wr (w.heap.size + 1) g = Wf := ⟨_, rfl⟩
        have HRf : MW Wf (w.heap.size + 1) g := hWf ▸ F1.out.put _
        have HBf : Below w.heap.size w Wf := hWf ▸ below_putM FB.out (by omega) _
        rw [hWf]
        clear hWf
        obtain ⟨d0, d1, -, -⟩ := HRf
        exact bodyPost_ret (v := .agg #[.int .i64 g.lo, .int .i64 g.hi]) (by simp [results, Try.results39, go_sem, d0, d1]) rfl ⟨g, _, HG.out, hl0, HV.out, HBf⟩
    · intro f f' c kl y1 y2 w1 cnt1 hkey hlk hv hat hrg1 hlt hg1 hs1 hen
      try dsimp only at hkey hv hen
      obtain ⟨ef, ek, eS, d1, d2⟩ := told_step HT.out hkey hv hat
      have ef2 := ef.symm
      clear ef
      subst ef2
      subst ek
      have HE : Hid (S f = some c) := eS
      have F0 : Hid (MW w1 w.heap.size had) := F0.out.grown hg1 (by simp [HES.out])
      have F1 : Hid (MW w1 (w.heap.size + 1) (⟨0, 0⟩ : Sp)) := F1.out.grown hg1 (by simp [HES.out])
      have F2 : Hid (MW w1 (w.heap.size + 2) g) := F2.out.grown hg1 (by simp [HES.out])
      have FB : Hid (Below w.heap.size w w1) := FB.out.grown hg1 FB.out.size (fun j hj => by cases hj; rw [HES.out]; omega)
      have hsz : w.heap.size + 3 < w1.heap.size := by rw [hs1, ← HES.out]; exact hrg.lt
      clear eS d1 d2 hv hat hlk hg1 hs1
      try dsimp only
      go_upto_region 5 with fail
      obtain ⟨fb, hfb⟩ : ∃ fb, fb = w1.heap.size := ⟨_, rfl⟩
      obtain ⟨W1, hW1⟩ : ∃ W1, W1 = w1.alloc (.cells #[.int .i64 f, .int .i64 f] 27) := ⟨_, rfl⟩
      have F0 : Hid (MW W1 w.heap.size had) := by rw [hW1]; exact F0.out.alloc _
      have F1 : Hid (MW W1 (w.heap.size + 1) (⟨0, 0⟩ : Sp)) := by rw [hW1]; exact F1.out.alloc _
      have F2 : Hid (MW W1 (w.heap.size + 2) g) := by rw [hW1]; exact F2.out.alloc _
      have F3 : Hid (MW W1 fb (⟨f, f⟩ : Sp)) := by rw [hW1]; exact MW.at_ w1 ⟨f, f⟩ _ fb hfb
      have FR : Hid (W1.ranges Try.prog 27 RI b W0.heap.size n D (fun z => left z && !z.sameKey (key2 f f)) cnt1) := by rw [hW1]; exact hrg1.alloc _
      have FB : Hid (Below w.heap.size w W1) := by rw [hW1]; exact FB.out.alloc FB.out.size _
      have lfb : w.heap.size + 3 < fb := by rw [hfb]; exact hsz
      rw [← hW1, ← hfb]
      clear hW1 hfb hsz hrg1 hen
      by_cases cc : c = car
      · have b0 : (c == car) = true := by simpa using cc
        obtain ⟨g2, hg2⟩ : ∃ g2, growS g f = g2 := ⟨_, rfl⟩
        have H2 : Hid (growS g f = g2) := hg2
        have HG2 : Hid (LeftI S car had (fun z => left z && !z.sameKey (key2 f f)) g2) := by rw [← hg2]; exact left_grow HG.out HS.out (by rw [← cc]; exact HE.out)
        clear hg2 cc
        obtain ⟨x2_0, x2_1, y2_0, y2_1⟩ := F2.out
        obtain ⟨x3_0, x3_1, y3_0, y3_1⟩ := F3.out
        try dsimp only at x3_0 x3_1
        go_wp2_with (go_at_call 46; refine (grown_any g f g2 H2.out _).mono ?_; rintro e w2 ⟨rfl, hb⟩; have F0 : Hid (MW w2 w.heap.size had) := F0.out.below hb F0.out.lt; have F1 : Hid (MW w2 (w.heap.size + 1) (⟨0, 0⟩ : Sp)) := F1.out.below hb F1.out.lt; have F2 : Hid (MW w2 (w.heap.size + 2) g) := F2.out.below hb F2.out.lt; have FR : Hid (w2.ranges Try.prog 27 RI b W0.heap.size n D (fun z => left z && !z.sameKey (key2 f f)) cnt1) := rng_below FR.out hb (rng_lt FR.out) FR.out.lt; have FB : Hid (Below w.heap.size w w2) := FB.out.trans (hb.mono FB.out.size); clear hb; obtain ⟨x2_0, x2_1, y2_0, y2_1⟩ := F2.out)
        go_roundw
        case rel => exact ⟨_, cnt1, g2, (FR.out.kept (grown_set _ _ _) (by simp; omega) (by simp [HES.out])).kept (grown_set _ _ _) (by simp; omega) (by simp [HES.out]), HG2.out, (F0.out.other (by omega)).other (by omega), (F1.out.other (by omega)).other (by omega), F2.out.put g2, (FB.out.setCell (by simp <;> omega) _).setCell (by simp <;> omega) _⟩
        case measure => rw [((FR.out.kept (grown_set _ _ _) (by simp; omega) (by simp [HES.out])).kept (grown_set _ _ _) (by simp; omega) (by simp [HES.out])).left_eq, hrg.left_eq]; exact hlt
      · have b0 : (c == car) = false := by simpa using cc
        have HG2 : Hid (LeftI S car had (fun z => left z && !z.sameKey (key2 f f)) g) := left_pass HG.out HS.out HE.out cc
        clear cc
        go_wp2_with fail
        go_roundw
        case rel => exact ⟨_, cnt1, g, FR.out, HG2.out, F0.out, F1.out, F2.out, FB.out⟩
        case measure => rw [FR.out.left_eq, hrg.left_eq]; exact hlt
end Go.Proofs.Ytpfihpplpefikaa
