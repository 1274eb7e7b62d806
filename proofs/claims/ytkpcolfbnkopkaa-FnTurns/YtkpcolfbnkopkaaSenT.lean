/-
  Sensors: the path of a wheel's counts (the model and the program).
-/
import Derived.Test.YtkpcolfbnkopkaaSenK
import Derived.Deep.RegionHeld3
import Derived.BigGuardPart
namespace Go.Proofs.Ytkpcolfbnkopkaa
open Go.RowKit Pl
set_option linter.unusedSimpArgs false
set_option linter.unusedVariables false

/-- The turns between the first counts, so many of them. -/
def sumN (l : List Int) : Nat → Int
  | 0 => 0
  | 1 => 0
  | i + 2 => sumN l (i + 1) + turnP (l.getD i 0) (l.getD (i + 1) 0)
theorem turnP_bd {a b : Int} (ha : isCount a = true) (hb : isCount b = true) : -32768 ≤ turnP a b ∧ turnP a b ≤ 32767 := by
  obtain ⟨a1, a2⟩ := inB_iff.1 ha
  obtain ⟨b1, b2⟩ := inB_iff.1 hb
  unfold turnP
  (repeat' split) <;> omega
theorem allC_get {l : List Int} (h : allC l = true) {i : Nat} {x : Int} (hx : l[i]? = some x) : isCount x = true := by
  cases hc : isCount x with
  | true => rfl
  | false => rw [allC_no hx hc] at h; cases h
theorem sumN_bd {l : List Int} (h : allC l = true) : ∀ i, i ≤ l.length → -(32768 * (i : Int)) ≤ sumN l i ∧ sumN l i ≤ 32768 * (i : Int)
  | 0, _ => by simp [sumN]
  | 1, _ => by simp [sumN]
  | i + 2, hi => by
    have q := sumN_bd h (i + 1) (by omega)
    have h1 : l[i]? = some (l.getD i 0) := by rw [List.getD_eq_getElem?_getD, List.getElem?_eq_getElem (by omega)]; rfl
    have h2 : l[i + 1]? = some (l.getD (i + 1) 0) := by rw [List.getD_eq_getElem?_getD, List.getElem?_eq_getElem (by omega)]; rfl
    have b := turnP_bd (allC_get h h1) (allC_get h h2)
    unfold sumN
    omega
def pathT (l : List Int) : Int := sumN l l.length
def pathK (l : List Int) (s : Int) : Int := if 60 < l.length then 2 else if inB s 1 1000 = true ∧ allC l = true then 0 else 3
def pathV (l : List Int) (s : Int) : Int := if pathK l s = 0 then pathT l * s else 0
structure PairC (w : World) (g i : Nat) (x y : Int) : Prop where
  c0 : w.cell? ⟨g, i, none⟩ = some (.int .i64 x)
  c1 : w.cell? ⟨g, i + 1, none⟩ = some (.int .i64 y)
  lt' : g < w.heap.size
theorem PairC.lt {w : World} {g i : Nat} {x y : Int} (a : PairC w g i x y) : g < w.heap.size := a.lt'
theorem PairC.below {W w : World} {g i B : Nat} {x y : Int} (a : PairC W g i x y) (hb : Below B W w) (hB : g < B) : PairC w g i x y := ⟨(hb.cell (p := ⟨g, i, none⟩) hB).trans a.c0, (hb.cell (p := ⟨g, i + 1, none⟩) hB).trans a.c1, Nat.lt_of_lt_of_le a.lt' hb.size⟩
set_option maxRecDepth 20000 in
set_option maxHeartbeats 16000000 in
theorem implPath_any (a : Option Addr) (cap : Nat) (l : List Int) (s : Int) (hl : l.length ≤ 1048576) (w : World) (h : IIn w a l) :
    Calls Try.prog 16 #[.slice a l.length cap, .int .i64 s] w fun e w' => e = .returned (.agg #[.int .i64 (pathK l s), .int .i64 (pathV l s)]) ∧ Below w.heap.size w w' := by
  have F : Hid (Blk (w.alloc (.cells #[.int .i64 0, .int .i64 0] 26)) w.heap.size [.int .i64 0, .int .i64 0]) := Blk.at_ w _ _ _ rfl
  have FB : Hid (Below w.heap.size w (w.alloc (.cells #[.int .i64 0, .int .i64 0] 26))) := (Below.refl _ _).alloc (Nat.le_refl _) _
  have H0 : Hid (IIn w a l) := h
  clear h
  by_cases h60 : 60 < l.length
  · have k : pathK l s = 2 := if_pos h60
    have kv : pathV l s = 0 := by unfold pathV; rw [k]; rfl
    rw [k, kv]
    clear k kv
    have d : decide ((60 : Int) < (l.length : Int)) = true := decide_eq_true (by omega)
    go_enter Try.func16, Try.ntmps16
    go_wp2_with (refine store_blk [.int .i64 (2), .int .i64 (0)] 26 _ _ (by kernel_rfl) (by kernel_rfl) (by kernel_rfl) F.out rfl rfl rfl rfl ?_)
    exact bodyPost_ret (v := .agg #[.int .i64 (2), .int .i64 (0)]) ((F.out.row [.int .i64 (2), .int .i64 (0)]).res _ Try.results16 Try.underlying26 (by kernel_rfl) rfl) rfl ⟨rfl, below_row FB.out (Nat.le_refl _) _⟩
  have d : decide ((60 : Int) < (l.length : Int)) = false := decide_eq_false (by omega)
  cases i1 : inB s 1 1000
  · have k : pathK l s = 3 := by unfold pathK; rw [if_neg h60, i1]; rfl
    have kv : pathV l s = 0 := by unfold pathV; rw [k]; rfl
    rw [k, kv]
    clear k kv
    go_enter Try.func16, Try.ntmps16
    go_wp2_with (first | (go_at_call 34; refine (isWithin_any _ _ _ _).mono ?_; rw [i1]; rintro e w' ⟨rfl, hw⟩; obtain rfl := hw.symm; clear hw) | (refine store_blk [.int .i64 (3), .int .i64 (0)] 26 _ _ (by kernel_rfl) (by kernel_rfl) (by kernel_rfl) F.out rfl rfl rfl rfl ?_))
    exact bodyPost_ret (v := .agg #[.int .i64 (3), .int .i64 (0)]) ((F.out.row [.int .i64 (3), .int .i64 (0)]).res _ Try.results16 Try.underlying26 (by kernel_rfl) rfl) rfl ⟨rfl, below_row FB.out (Nat.le_refl _) _⟩
  cases hA : allC l
  · have k : pathK l s = 3 := by unfold pathK; rw [if_neg h60, hA, if_neg (by simp)]
    have kv : pathV l s = 0 := by unfold pathV; rw [k]; rfl
    rw [k, kv]
    clear k kv
    go_enter Try.func16, Try.ntmps16
    go_wp2_with (first | (go_at_call 34; refine (isWithin_any _ _ _ _).mono ?_; rw [i1]; rintro e w' ⟨rfl, hw⟩; obtain rfl := hw.symm; clear hw) | (go_at_call 31; refine (areCounts_any a cap l hl _ (H0.out.below FB.out)).mono ?_; rw [hA]; rintro e w' ⟨rfl, hw⟩; obtain rfl := hw.symm; clear hw) | (refine store_blk [.int .i64 (3), .int .i64 (0)] 26 _ _ (by kernel_rfl) (by kernel_rfl) (by kernel_rfl) F.out rfl rfl rfl rfl ?_))
    exact bodyPost_ret (v := .agg #[.int .i64 (3), .int .i64 (0)]) ((F.out.row [.int .i64 (3), .int .i64 (0)]).res _ Try.results16 Try.underlying26 (by kernel_rfl) rfl) rfl ⟨rfl, below_row FB.out (Nat.le_refl _) _⟩
  have HK : Hid (pathK l s = 0) := by show pathK l s = 0; unfold pathK; rw [if_neg h60, if_pos ⟨i1, hA⟩]
  have HV : Hid (pathV l s = pathT l * s) := if_pos HK.out
  have HA : Hid (allC l = true) := hA
  clear hA
  go_enter Try.func16, Try.ntmps16
  go_wp2_with (first | (go_at_call 34; refine (isWithin_any _ _ _ _).mono ?_; rw [i1]; rintro e w' ⟨rfl, hw⟩; obtain rfl := hw.symm; clear hw) | (go_at_call 31; refine (areCounts_any a cap l hl _ (H0.out.below FB.out)).mono ?_; rw [HA.out]; rintro e w' ⟨rfl, hw⟩; obtain rfl := hw.symm; clear hw))
  go_loopw [5, 6] (fun nn ii wr => ∃ i : Nat, nn = .int .i64 (sumN l (i + 1)) ∧ ii = .int .i64 ((i + 1 : Nat) : Int) ∧ (i = 0 ∨ i + 1 ≤ l.length) ∧ Blk wr w.heap.size [.int .i64 0, .int .i64 0] ∧ Below w.heap.size w wr) (fun _ ii _ => l.length - (intOf ii).toNat)
  case atStart => exact ⟨0, rfl, rfl, Or.inl rfl, F.out, FB.out⟩
  case round =>
    obtain ⟨i, rfl, rfl, hi, hF, hb⟩ := hrel
    have F : Hid (Blk wr w.heap.size [.int .i64 0, .int .i64 0]) := hF
    have FB : Hid (Below w.heap.size w wr) := hb
    clear hF hb
    by_cases hlt : i + 1 < l.length
    · obtain ⟨x, hx⟩ : ∃ x, l[i]? = some x := ⟨_, List.getElem?_eq_getElem (by omega)⟩
      obtain ⟨y, hy⟩ : ∃ y, l[i + 1]? = some y := ⟨_, List.getElem?_eq_getElem hlt⟩
      have cx := allC_get HA.out hx
      have cy := allC_get HA.out hy
      have HS : Hid (sumN l (i + 1 + 1) = sumN l (i + 1) + turnP x y) := by
        show sumN l (i + 1) + turnP (l.getD i 0) (l.getD (i + 1) 0) = _
        rw [List.getD_eq_getElem?_getD, List.getD_eq_getElem?_getD, hx, hy]
        rfl
      have bd := sumN_bd HA.out (i + 1) (by omega)
      have tb := turnP_bd cx cy
      rcases H0.out with h0 | ⟨g, rfl, hg, hc⟩
      · rw [h0] at hlt; simp at hlt
      have F0 : Hid (PairC wr g i x y) := (PairC.mk (hc i x hx) (hc (i + 1) y hy) hg).below FB.out hg
      obtain ⟨S, hS⟩ : ∃ S, sumN l (i + 1) = S := ⟨_, rfl⟩
      rw [hS] at bd HS ⊢
      have ew : IntKind.i64.wrap (S + turnP x y) = S + turnP x y := IntWalk.i64_in _ (by omega)
      have u1 := u16_in cx
      have u2 := u16_in cy
      have d1 : decide ((i : Int) + 1 < (l.length : Int)) = true := decide_eq_true (by omega)
      have wi : IntKind.i64.wrap (i : Int) = (i : Int) := IntWalk.i64_in _ (by omega)
      have hi2 : i < l.length := by omega
      have hj1 : (0 : Int) ≤ (i : Int) + 1 := by omega
      have hj2 : (i : Int) + 1 < (l.length : Int) := by omega
      clear hx hy hc bd tb hS
      go_wp2_with fail
      have F0 : Hid (PairC wr.drew g i x y) := F0.out.below (Below.refl _ _).drew F0.out.lt
      have F : Hid (Blk wr.drew w.heap.size [.int .i64 0, .int .i64 0]) := F.out.below (Below.refl _ _).drew F.out.lt
      have FB : Hid (Below w.heap.size w wr.drew) := FB.out.drew
      have m0 := F0.out.c0
      have m1 := F0.out.c1
      refine wp_region_held_drew (S := (fun w'' => w''.cell? ⟨g, i, none⟩ = some (.int .i64 x) ∧ w''.cell? ⟨g, (i + 1), none⟩ = some (.int .i64 y))) (by kernel_rfl) (by (try dsimp only); first | exact ⟨m0, m1⟩ | go_keep) (fun hHeld => ?_)
      obtain ⟨v_1, hw1⟩ : ∃ v_1, v_1 = wr.drew := ⟨_, rfl⟩
      have F0 : Hid (PairC v_1 g i x y) := by rw [hw1]; exact F0.out
      have F : Hid (Blk v_1 w.heap.size [.int .i64 0, .int .i64 0]) := by rw [hw1]; exact F.out
      have FB : Hid (Below w.heap.size w v_1) := by rw [hw1]; exact FB.out
      rw [← hw1] at hHeld ⊢
      clear hw1
      have m0 := F0.out.c0
      have m1 := F0.out.c1
      refine tkz 0 rfl ?_
      refine tkz 1 rfl ?_
      refine tkz 2 rfl ?_
      refine tkz 3 rfl ?_
      refine tkz 4 rfl ?_
      refine tkz 5 rfl ?_
      refine tkz 6 rfl ?_
      refine tkz 7 rfl ?_
      refine tkz 8 rfl ?_
      refine tkz 9 rfl ?_
      refine tkz 10 rfl ?_
      refine tkz 11 rfl ?_
      refine wpAnyH_ready (rs := [12]) (by kernel_rfl) (by simp) ?_
      refine (AllReadyH.cons rfl (fun K hK => ?_) AllReadyH.nil)
      go_simp
      refine (turnBetween_any x y cx cy _).mono ?_
      rintro e w_ ⟨rfl, hw⟩
      obtain rfl := hw.symm
      clear hw
      try dsimp only
      refine hK.out _ _ (by (try dsimp only); first | exact ⟨m0, m1⟩ | go_keep) (fun hHeld => ?_)
      clear hK K
      try simp only [Act.put, List.getElem_toArray, List.getElem_cons_succ, List.getElem_cons_zero, List.setIfInBounds_toArray, List.set_cons_zero, List.set_cons_succ]
      refine tkz 13 rfl ?_
      refine tkz 14 rfl ?_
      refine wpAnyH_done (by kernel_rfl) ?_ _
      go_wp2_with fail
      go_roundw
      case rel => exact ⟨i + 1, by simp [HS.out], by simp, by omega, F.out, FB.out⟩
      case measure => simp [intOf]; omega
    · have HE : Hid (sumN l (i + 1) = pathT l) := by
        show sumN l (i + 1) = sumN l l.length
        rcases hi with h | h
        · subst h
          rcases (show l.length = 0 ∨ l.length = 1 by omega) with e | e <;> rw [e] <;> rfl
        · rw [show l.length = i + 1 by omega]
      rw [HE.out]
      have bd := sumN_bd HA.out l.length (Nat.le_refl _)
      have hs := inB_iff.1 i1
      have bp : -(2000000 * 1000) ≤ pathT l * s ∧ pathT l * s ≤ 2000000 * 1000 := by
        have b1 : -2000000 ≤ pathT l := by unfold pathT; omega
        have b2 : pathT l ≤ 2000000 := by unfold pathT; omega
        constructor
        · have := Int.mul_le_mul_of_nonneg_right b1 (show 0 ≤ s by omega)
          have := Int.mul_le_mul_of_nonneg_left hs.2 (show (0 : Int) ≤ 2000000 by omega)
          omega
        · have := Int.mul_le_mul_of_nonneg_right b2 (show 0 ≤ s by omega)
          have := Int.mul_le_mul_of_nonneg_left hs.2 (show (0 : Int) ≤ 2000000 by omega)
          omega
      obtain ⟨Q, hQ⟩ : ∃ Q, pathT l * s = Q := ⟨_, rfl⟩
      rw [hQ] at bp
      have ew : IntKind.i64.wrap (pathT l * s) = Q := by rw [hQ]; exact IntWalk.i64_in _ (by omega)
      have ew2 : wrap64 (pathT l * s) = Q := by rw [hQ]; unfold wrap64; omega
      have HQ : Hid (Q = pathV l s) := by show Q = _; rw [← hQ]; exact HV.out.symm
      have d1 : decide ((i : Int) + 1 < (l.length : Int)) = false := decide_eq_false (by omega)
      clear bd hs bp hQ
      go_wp2_with (refine store_blk [.int .i64 (0), .int .i64 (Q)] 26 _ _ (by kernel_rfl) (by kernel_rfl) (by kernel_rfl) F.out rfl rfl rfl rfl ?_)
      exact bodyPost_ret (v := .agg #[.int .i64 (0), .int .i64 (Q)]) ((F.out.row [.int .i64 (0), .int .i64 (Q)]).res _ Try.results16 Try.underlying26 (by kernel_rfl) rfl) rfl ⟨ret_two2 HK.out.symm HQ.out, below_row FB.out (Nat.le_refl _) _⟩
end Go.Proofs.Ytkpcolfbnkopkaa
