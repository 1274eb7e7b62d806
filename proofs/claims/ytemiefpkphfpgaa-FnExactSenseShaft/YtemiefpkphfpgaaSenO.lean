/-
  Sensors: the middle of three (the program sorts them).
-/
import Derived.Test.YtemiefpkphfpgaaSenJ
import Derived.Test.YtemiefpkphfpgaaSenK
import Derived.Test.YtemiefpkphfpgaaShl
import Derived.Sort.OwnSortedInts
import Derived.Deep.RegionHeld3
namespace Go.Proofs.Ytemiefpkphfpgaa
open Go.RowKit Pl
set_option linter.unusedSimpArgs false
set_option linter.unusedVariables false

def lowI (a b c : Int) : Int := min (min a b) c
def highI (a b c : Int) : Int := max (max a b) c
theorem sort_three (a b c : Int) : [a, b, c].mergeSort (fun x y => decide (x ≤ y)) = [lowI a b c, midI a b c, highI a b c] := by
  unfold lowI midI highI
  by_cases h1 : a ≤ b <;> by_cases h2 : b ≤ c <;> by_cases h3 : a ≤ c <;> simp [List.mergeSort, List.MergeSort.Internal.splitInTwo, List.merge, h1, h2, h3] <;> omega
theorem sort3_any (a b c : Int) (g : Nat) (w : World) (h : Blk w g [.int .i64 a, .int .i64 b, .int .i64 c]) :
    Calls Try.prog 31 #[.slice (some ⟨g, 0, none⟩) 3 3] w fun e w' => e = .returned (.tuple #[]) ∧ Blk w' g [.int .i64 (lowI a b c), .int .i64 (midI a b c), .int .i64 (highI a b c)] ∧ w.grownBy w' (some g) := by
  have q := AnyM.slices_Sort_int Shl.sort g 0 3 [a, b, c] w (fun j hj => by
    refine ⟨?_, ?_⟩
    · rw [Nat.zero_add]
      refine h.c j _ ?_
      match j, hj with
      | 0, _ => rfl
      | 1, _ => rfl
      | 2, _ => rfl
    · rw [Nat.zero_add]; exact h.f j (by simpa using hj)) h.lt (by simp)
  refine Calls.mono q ?_
  rintro e w' ⟨he, n, os, hw⟩
  obtain ⟨T, hT⟩ := h.o
  refine ⟨he, ⟨T, ?_⟩, ?_⟩
  · rw [hw, heap_sortedI _ hT, sort_three]
    rfl
  · rw [hw]
    exact grownBy_sortedI _
theorem vote_ok {a b c m : Int} : okV a b c m = true ↔ ¬ (lowI a b c < -1000000000000000) ∧ ¬ (1000000000000000 < highI a b c) ∧ inB m 0 1000000000000000 = true := by
  rw [okV_iff, inB_iff, inB_iff, inB_iff]
  unfold lowI highI
  constructor
  · rintro ⟨h1, h2, h3, h4⟩; exact ⟨by omega, by omega, h4⟩
  · rintro ⟨h1, h2, h4⟩; exact ⟨by omega, by omega, by omega, h4⟩
theorem vote_any {a b c m : Int} : anyN a b c m = true ↔ ¬ (m < midI a b c - lowI a b c ∧ m < highI a b c - midI a b c) := by
  rw [anyN_iff]
  unfold lowI highI midI absI
  constructor
  · rintro (h | h | h) <;> omega
  · intro h; omega
theorem low_high (a b c : Int) : lowI a b c ≤ midI a b c ∧ midI a b c ≤ highI a b c := by unfold lowI highI midI; omega
set_option maxRecDepth 20000 in
set_option maxHeartbeats 16000000 in
theorem implVote_any (a b c m : Int) (a1 : -9223372036854775808 ≤ a) (a2 : a ≤ 9223372036854775807) (b1 : -9223372036854775808 ≤ b) (b2 : b ≤ 9223372036854775807) (c1 : -9223372036854775808 ≤ c) (c2 : c ≤ 9223372036854775807) (w : World) :
    Calls Try.prog 14 #[.int .i64 a, .int .i64 b, .int .i64 c, .int .i64 m] w fun e w' => e = .returned (.agg #[.int .i64 (voteK a b c m), .int .i64 (voteV a b c m)]) ∧ Below w.heap.size w w' := by
  have F0 : Hid (Blk ((w.alloc (.cells #[.int .i64 0, .int .i64 0] 40)).alloc (.cells #[.int .i64 a, .int .i64 b, .int .i64 c] 53)) w.heap.size [.int .i64 0, .int .i64 0]) := (Blk.at_ w _ _ _ rfl).alloc _
  have F1 : Hid (Blk ((w.alloc (.cells #[.int .i64 0, .int .i64 0] 40)).alloc (.cells #[.int .i64 a, .int .i64 b, .int .i64 c] 53)) (w.heap.size + 1) [.int .i64 a, .int .i64 b, .int .i64 c]) := Blk.at_ _ _ _ _ (by simp)
  have FB : Hid (Below w.heap.size w ((w.alloc (.cells #[.int .i64 0, .int .i64 0] 40)).alloc (.cells #[.int .i64 a, .int .i64 b, .int .i64 c] 53))) := ((Below.refl _ _).alloc (Nat.le_refl _) _).alloc (by simp) _
  obtain ⟨K, hK⟩ : ∃ K, voteK a b c m = K := ⟨_, rfl⟩
  obtain ⟨V, hV⟩ : ∃ V, voteV a b c m = V := ⟨_, rfl⟩
  rw [hK, hV]
  have hlh := low_high a b c
  have hok := vote_ok (a := a) (b := b) (c := c) (m := m)
  have han := vote_any (a := a) (b := b) (c := c) (m := m)
  have lb : -9223372036854775808 ≤ lowI a b c := by unfold lowI; omega
  have hb' : highI a b c ≤ 9223372036854775807 := by unfold highI; omega
  obtain ⟨lo, hlo⟩ : ∃ x, lowI a b c = x := ⟨_, rfl⟩
  obtain ⟨mi, hmi⟩ : ∃ x, midI a b c = x := ⟨_, rfl⟩
  obtain ⟨hi, hhi⟩ : ∃ x, highI a b c = x := ⟨_, rfl⟩
  rw [hlo] at hok han hlh lb
  rw [hmi] at han hlh
  rw [hhi] at hok han hlh hb'
  have HL : Hid (lowI a b c = lo) := hlo
  have HM : Hid (midI a b c = mi) := hmi
  have HH : Hid (highI a b c = hi) := hhi
  have HOK : Hid (okV a b c m = true ↔ ¬ (lo < -1000000000000000) ∧ ¬ (1000000000000000 < hi) ∧ inB m 0 1000000000000000 = true) := hok
  have HAN : Hid (anyN a b c m = true ↔ ¬ (m < mi - lo ∧ m < hi - mi)) := han
  have HKx : Hid (voteK a b c m = K) := hK
  have HVx : Hid (voteV a b c m = V) := hV
  clear hlo hmi hhi hok han hK hV
  go_enter Try.func14, Try.ntmps14
  go_upto_region 3 with (go_at_call 31; refine (sort3_any a b c (w.heap.size + 1) _ F1.out).mono ?_; rw [HL.out, HM.out, HH.out]; rintro e w1 ⟨rfl, hB, hg⟩; have F0 : Hid (Blk w1 w.heap.size [.int .i64 0, .int .i64 0]) := F0.out.grown hg (by simp); have F1 : Hid (Blk w1 (w.heap.size + 1) [.int .i64 lo, .int .i64 mi, .int .i64 hi]) := hB; have FB : Hid (Below w.heap.size w w1) := FB.out.grown hg FB.out.size (fun j hj => by cases hj; omega); clear hB hg)
  go_cut [10, 11, 12] (fun p q r wx => p = .int .i64 lo ∧ q = .int .i64 mi ∧ r = .int .i64 hi ∧ Blk wx w.heap.size [.int .i64 0, .int .i64 0] ∧ Below w.heap.size w wx)
  case first =>
    have F0 : Hid (Blk w1.drew w.heap.size [.int .i64 0, .int .i64 0]) := F0.out.below (Below.refl _ _).drew F0.out.lt
    have F1 : Hid (Blk w1.drew (w.heap.size + 1) [.int .i64 lo, .int .i64 mi, .int .i64 hi]) := F1.out.below (Below.refl _ _).drew F1.out.lt
    have FB : Hid (Below w.heap.size w w1.drew) := FB.out.drew
    refine wp_region_held_drew (S := (fun w'' => Blk w'' (w.heap.size + 1) ([.int .i64 lo, .int .i64 mi, .int .i64 hi]))) (by kernel_rfl) (by (try dsimp only); first | exact F1.out | go_keep) (fun hHeld => ?_)
    obtain ⟨v_1, hw1⟩ : ∃ v_1, v_1 = w1.drew := ⟨_, rfl⟩
    have F0 : Hid (Blk v_1 w.heap.size [.int .i64 0, .int .i64 0]) := by rw [hw1]; exact F0.out
    have F1 : Hid (Blk v_1 (w.heap.size + 1) [.int .i64 lo, .int .i64 mi, .int .i64 hi]) := by rw [hw1]; exact F1.out
    have FB : Hid (Below w.heap.size w v_1) := by rw [hw1]; exact FB.out
    rw [← hw1] at hHeld ⊢
    clear hw1
    refine tkz 0 rfl ?_
    refine tkz 1 rfl ?_ (hy := Or.inl ⟨by kernel_rfl, by (intro wx hSw; have hq0_0 := hSw.c 0 _ rfl; (try dsimp only at hSw); go_simp <;> with_reducible rfl)⟩)
    refine tkz 2 rfl ?_
    refine tkz 3 rfl ?_ (hy := Or.inl ⟨by kernel_rfl, by (intro wx hSw; have hq0_1 := hSw.c 1 _ rfl; (try dsimp only at hSw); go_simp <;> with_reducible rfl)⟩)
    refine tkz 4 rfl ?_
    refine tkz 5 rfl ?_ (hy := Or.inl ⟨by kernel_rfl, by (intro wx hSw; have hq0_2 := hSw.c 2 _ rfl; (try dsimp only at hSw); go_simp <;> with_reducible rfl)⟩)
    refine tkz 6 rfl ?_
    refine tkz 7 rfl ?_
    refine tkz 8 rfl ?_
    refine wpAnyH_done (by kernel_rfl) ?_ _
    go_wp2_with fail
    go_meet
    case rel => exact ⟨rfl, rfl, rfl, F0.out, FB.out⟩
  case rest =>
  obtain ⟨rfl, rfl, rfl, hF, hB⟩ := hcut
  have F0 : Hid (Blk wc w.heap.size [.int .i64 0, .int .i64 0]) := hF
  have FB : Hid (Below w.heap.size w wc) := hB
  clear hF hB
  have hK := HKx.out
  have hV := HVx.out
  cases d1 : decide (lo < -1000000000000000)
  · cases d2 : decide (1000000000000000 < hi)
    · cases i4 : inB m 0 1000000000000000
      · have no : okV a b c m = false := by
          cases hz : okV a b c m with
          | false => rfl
          | true => have := (HOK.out.1 hz).2.2; rw [i4] at this; cases this
        have HK : Hid ((3 : Int) = K) := by show _ = K; rw [← hK]; simp [voteK, no]
        have HV : Hid ((0 : Int) = V) := by show _ = V; rw [← hV]; simp [voteV, voteK, no, HM.out]
        clear hK hV no
        go_wp2_with (first | (go_at_call 32; refine (isWithin_any _ _ _ _).mono ?_; rw [i4]; rintro e w' ⟨rfl, hw⟩; obtain rfl := hw.symm; clear hw) | (refine store_blk [.int .i64 (3), .int .i64 (0)] 40 _ _ (by kernel_rfl) (by kernel_rfl) (by kernel_rfl) F0.out rfl rfl rfl rfl ?_))
        exact bodyPost_ret (v := .agg #[.int .i64 (3), .int .i64 (0)]) ((F0.out.row [.int .i64 (3), .int .i64 (0)]).res _ Try.results14 Try.underlying40 (by kernel_rfl) rfl) rfl ⟨ret_two2 HK.out HV.out, below_row FB.out (Nat.le_refl _) _⟩
      · have ok : okV a b c m = true := HOK.out.2 ⟨by have := of_decide_eq_false d1; omega, by have := of_decide_eq_false d2; omega, i4⟩
        have n1 := of_decide_eq_false d1
        have n2 := of_decide_eq_false d2
        have e1 : IntKind.i64.wrap (mi - lo) = mi - lo := IntWalk.i64_in _ (by omega)
        have e2 : IntKind.i64.wrap (hi - mi) = hi - mi := IntWalk.i64_in _ (by omega)
        cases f1 : decide (m < mi - lo)
        · have an : anyN a b c m = true := HAN.out.2 (fun z => of_decide_eq_false f1 z.1)
          have HK : Hid ((0 : Int) = K) := by show _ = K; rw [← hK]; simp [voteK, ok, an]
          have HV : Hid ((mi : Int) = V) := by show _ = V; rw [← hV]; simp [voteV, voteK, ok, an, HM.out]
          clear hK hV ok an
          go_wp2_with (first | (go_at_call 32; refine (isWithin_any _ _ _ _).mono ?_; rw [i4]; rintro e w' ⟨rfl, hw⟩; obtain rfl := hw.symm; clear hw) | (refine store_blk [.int .i64 (0), .int .i64 (mi)] 40 _ _ (by kernel_rfl) (by kernel_rfl) (by kernel_rfl) F0.out rfl rfl rfl rfl ?_))
          exact bodyPost_ret (v := .agg #[.int .i64 (0), .int .i64 (mi)]) ((F0.out.row [.int .i64 (0), .int .i64 (mi)]).res _ Try.results14 Try.underlying40 (by kernel_rfl) rfl) rfl ⟨ret_two2 HK.out HV.out, below_row FB.out (Nat.le_refl _) _⟩
        · cases f2 : decide (m < hi - mi)
          · have an : anyN a b c m = true := HAN.out.2 (fun z => of_decide_eq_false f2 z.2)
            have HK : Hid ((0 : Int) = K) := by show _ = K; rw [← hK]; simp [voteK, ok, an]
            have HV : Hid ((mi : Int) = V) := by show _ = V; rw [← hV]; simp [voteV, voteK, ok, an, HM.out]
            clear hK hV ok an
            go_wp2_with (first | (go_at_call 32; refine (isWithin_any _ _ _ _).mono ?_; rw [i4]; rintro e w' ⟨rfl, hw⟩; obtain rfl := hw.symm; clear hw) | (refine store_blk [.int .i64 (0), .int .i64 (mi)] 40 _ _ (by kernel_rfl) (by kernel_rfl) (by kernel_rfl) F0.out rfl rfl rfl rfl ?_))
            exact bodyPost_ret (v := .agg #[.int .i64 (0), .int .i64 (mi)]) ((F0.out.row [.int .i64 (0), .int .i64 (mi)]).res _ Try.results14 Try.underlying40 (by kernel_rfl) rfl) rfl ⟨ret_two2 HK.out HV.out, below_row FB.out (Nat.le_refl _) _⟩
          · have an : anyN a b c m = false := by
              cases hz : anyN a b c m with
              | false => rfl
              | true => exact absurd ⟨of_decide_eq_true f1, of_decide_eq_true f2⟩ (HAN.out.1 hz)
            have HK : Hid ((1 : Int) = K) := by show _ = K; rw [← hK]; simp [voteK, ok, an]
            have HV : Hid ((0 : Int) = V) := by show _ = V; rw [← hV]; simp [voteV, voteK, ok, an, HM.out]
            clear hK hV ok an
            go_wp2_with (first | (go_at_call 32; refine (isWithin_any _ _ _ _).mono ?_; rw [i4]; rintro e w' ⟨rfl, hw⟩; obtain rfl := hw.symm; clear hw) | (refine store_blk [.int .i64 (1), .int .i64 (0)] 40 _ _ (by kernel_rfl) (by kernel_rfl) (by kernel_rfl) F0.out rfl rfl rfl rfl ?_))
            exact bodyPost_ret (v := .agg #[.int .i64 (1), .int .i64 (0)]) ((F0.out.row [.int .i64 (1), .int .i64 (0)]).res _ Try.results14 Try.underlying40 (by kernel_rfl) rfl) rfl ⟨ret_two2 HK.out HV.out, below_row FB.out (Nat.le_refl _) _⟩
    · have no : okV a b c m = false := by
        cases hz : okV a b c m with
        | false => rfl
        | true => exact absurd (of_decide_eq_true d2) (by have := (HOK.out.1 hz).2.1; omega)
      have HK : Hid ((3 : Int) = K) := by show _ = K; rw [← hK]; simp [voteK, no]
      have HV : Hid ((0 : Int) = V) := by show _ = V; rw [← hV]; simp [voteV, voteK, no, HM.out]
      clear hK hV no
      go_wp2_with (first | (go_at_call 32; refine (isWithin_any _ _ _ _).mono ?_; rintro e w' ⟨rfl, hw⟩; obtain rfl := hw.symm; clear hw) | (refine store_blk [.int .i64 (3), .int .i64 (0)] 40 _ _ (by kernel_rfl) (by kernel_rfl) (by kernel_rfl) F0.out rfl rfl rfl rfl ?_))
      exact bodyPost_ret (v := .agg #[.int .i64 (3), .int .i64 (0)]) ((F0.out.row [.int .i64 (3), .int .i64 (0)]).res _ Try.results14 Try.underlying40 (by kernel_rfl) rfl) rfl ⟨ret_two2 HK.out HV.out, below_row FB.out (Nat.le_refl _) _⟩
  · have no : okV a b c m = false := by
      cases hz : okV a b c m with
      | false => rfl
      | true => exact absurd (of_decide_eq_true d1) (by have := (HOK.out.1 hz).1; omega)
    have HK : Hid ((3 : Int) = K) := by show _ = K; rw [← hK]; simp [voteK, no]
    have HV : Hid ((0 : Int) = V) := by show _ = V; rw [← hV]; simp [voteV, voteK, no, HM.out]
    clear hK hV no
    go_wp2_with (first | (go_at_call 32; refine (isWithin_any _ _ _ _).mono ?_; rintro e w' ⟨rfl, hw⟩; obtain rfl := hw.symm; clear hw) | (refine store_blk [.int .i64 (3), .int .i64 (0)] 40 _ _ (by kernel_rfl) (by kernel_rfl) (by kernel_rfl) F0.out rfl rfl rfl rfl ?_))
    exact bodyPost_ret (v := .agg #[.int .i64 (3), .int .i64 (0)]) ((F0.out.row [.int .i64 (3), .int .i64 (0)]).res _ Try.results14 Try.underlying40 (by kernel_rfl) rfl) rfl ⟨ret_two2 HK.out HV.out, below_row FB.out (Nat.le_refl _) _⟩
end Go.Proofs.Ytemiefpkphfpgaa
