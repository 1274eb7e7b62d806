/-
  The program's journeys: what is asked of the next event.
-/
import Derived.Test.YtoacnglcneliiaaGreatDoorEvU
namespace Go.Proofs.YtoacnglcneliiaaGreatDoor
open Go.RowKit Pl
set_option linter.unusedSimpArgs false
set_option linter.unusedVariables false

set_option maxRecDepth 20000 in
set_option maxHeartbeats 32000000 in
theorem stepFault_any (j : Jn) (kn : Bool) (e : Ev) (h1 : 1 ≤ e.kd) (h2 : e.kd ≤ 5) (w : World) :
    Calls Tryz.prog 51 #[.agg #[.int .i64 j.cl.tk, .int .i64 j.cl.kd, .int .i64 j.cl.id, .int .i64 j.cl.fl, .int .i64 j.cl.tw, .int .i64 j.bd, .int .i64 j.st], .bool kn, .agg #[.int .i64 e.tk, .int .i64 e.kd, .int .i64 e.id, .int .i64 e.fl, .int .i64 e.tw]] w fun r w' => r = .returned (.int .i64 (nextC (if kn = true then some j.cl else none) j.st e)) ∧ Below w.heap.size w w' := by
  obtain ⟨K, hK⟩ : ∃ K, nextC (if kn = true then some j.cl else none) j.st e = K := ⟨_, rfl⟩
  rw [hK]
  obtain ⟨W0, hW0⟩ : ∃ W0, W0 = ((w.alloc (.cells #[.int .i64 j.cl.tk, .int .i64 j.cl.kd, .int .i64 j.cl.id, .int .i64 j.cl.fl, .int .i64 j.cl.tw, .int .i64 j.bd, .int .i64 j.st] 91)).alloc (.cells #[.int .i64 e.tk, .int .i64 e.kd, .int .i64 e.id, .int .i64 e.fl, .int .i64 e.tw] 34)) := ⟨_, rfl⟩
  have F0 : Hid (Blk W0 w.heap.size [.int .i64 j.cl.tk, .int .i64 j.cl.kd, .int .i64 j.cl.id, .int .i64 j.cl.fl, .int .i64 j.cl.tw, .int .i64 j.bd, .int .i64 j.st]) := by rw [hW0]; exact (Blk.at_ w _ _ _ rfl).alloc _
  have F1 : Hid (Blk W0 (w.heap.size + 1) [.int .i64 e.tk, .int .i64 e.kd, .int .i64 e.id, .int .i64 e.fl, .int .i64 e.tw]) := by rw [hW0]; exact Blk.at_ _ _ _ _ (by simp)
  have FB : Hid (Below w.heap.size w W0) := by rw [hW0]; exact ((Below.refl _ _).alloc (Nat.le_refl _) _).alloc (by simp) _
  have HW0 : Hid (W0 = ((w.alloc (.cells #[.int .i64 j.cl.tk, .int .i64 j.cl.kd, .int .i64 j.cl.id, .int .i64 j.cl.fl, .int .i64 j.cl.tw, .int .i64 j.bd, .int .i64 j.st] 91)).alloc (.cells #[.int .i64 e.tk, .int .i64 e.kd, .int .i64 e.id, .int .i64 e.fl, .int .i64 e.tw] 34))) := hW0
  clear hW0
  go_enter Tryz.func51, Tryz.ntmps51
  go_upto_region 1 with fail
  rw [← HW0.out]
  clear HW0
  have y1 := F1.out.c 1 _ rfl
  by_cases k1 : e.kd = 1
  · have b1 : (e.kd == 1) = true := by simpa using k1
    cases kn
    · have HK2 : Hid ((0 : Int) = K) := by show _ = K; rw [← hK]; simp [nextC, k1]
      clear hK k1
      go_wp2_with fail
      go_ret
      exact ⟨ret_int HK2.out, FB.out⟩
    · have HK2 : Hid ((6 : Int) = K) := by show _ = K; rw [← hK]; simp [nextC, k1]
      clear hK k1
      go_wp2_with fail
      go_ret
      exact ⟨ret_int HK2.out, FB.out⟩
  have b1 : (e.kd == 1) = false := by simpa using k1
  cases kn
  · have HK2 : Hid ((4 : Int) = K) := by show _ = K; rw [← hK]; simp [nextC, k1]
    clear hK
    go_wp2_with fail
    go_ret
    exact ⟨ret_int HK2.out, FB.out⟩
  have hk3 : e.kd = 2 ∨ e.kd = 3 ∨ e.kd = 4 ∨ e.kd = 5 := by omega
  rw [if_pos rfl] at hK
  rcases hk3 with k | k | k | k
  · have hsa : saH e.kd = 0 := by simp [saH, k]
    have b2 : (e.kd == 2) = true := by simpa using k
    have b3 : (e.kd == 3) = false := by rw [k]; rfl
    have HKd : Hid (e.kd = _) := k
    clear k
    go_upto_region 7 with fail
    clear y1
    have F0 : Hid (Blk W0.drew w.heap.size [.int .i64 j.cl.tk, .int .i64 j.cl.kd, .int .i64 j.cl.id, .int .i64 j.cl.fl, .int .i64 j.cl.tw, .int .i64 j.bd, .int .i64 j.st]) := F0.out.below (Below.refl _ _).drew F0.out.lt
    have F1 : Hid (Blk W0.drew (w.heap.size + 1) [.int .i64 e.tk, .int .i64 e.kd, .int .i64 e.id, .int .i64 e.fl, .int .i64 e.tw]) := F1.out.below (Below.refl _ _).drew F1.out.lt
    have FB : Hid (Below w.heap.size w W0.drew) := FB.out.drew
    refine wp_region_held_drew (S := (fun w'' => Blk w'' w.heap.size ([.int .i64 j.cl.tk, .int .i64 j.cl.kd, .int .i64 j.cl.id, .int .i64 j.cl.fl, .int .i64 j.cl.tw, .int .i64 j.bd, .int .i64 j.st]) ∧ Blk w'' (w.heap.size + 1) ([.int .i64 e.tk, .int .i64 e.kd, .int .i64 e.id, .int .i64 e.fl, .int .i64 e.tw]))) (by kernel_rfl) (by (try dsimp only); first | exact ⟨F0.out, F1.out⟩ | go_keep) (fun hHeld => ?_)
    obtain ⟨v_1, hw1⟩ : ∃ v_1, v_1 = W0.drew := ⟨_, rfl⟩
    have F0 : Hid (Blk v_1 w.heap.size [.int .i64 j.cl.tk, .int .i64 j.cl.kd, .int .i64 j.cl.id, .int .i64 j.cl.fl, .int .i64 j.cl.tw, .int .i64 j.bd, .int .i64 j.st]) := by rw [hw1]; exact F0.out
    have F1 : Hid (Blk v_1 (w.heap.size + 1) [.int .i64 e.tk, .int .i64 e.kd, .int .i64 e.id, .int .i64 e.fl, .int .i64 e.tw]) := by rw [hw1]; exact F1.out
    have FB : Hid (Below w.heap.size w v_1) := by rw [hw1]; exact FB.out
    rw [← hw1] at hHeld ⊢
    clear hw1
    refine tkz 0 rfl ?_
    refine tkz 1 rfl ?_ (hy := Or.inl ⟨by kernel_rfl, by (intro wx hSw; have hq0_6 := hSw.1.c 6 _ rfl; (try dsimp only at hSw); go_simp <;> with_reducible rfl)⟩)
    refine tkz 2 rfl ?_
    refine tkz 3 rfl ?_ (hy := Or.inl ⟨by kernel_rfl, by (intro wx hSw; have hq1_1 := hSw.2.c 1 _ rfl; (try dsimp only at hSw); go_simp <;> with_reducible rfl)⟩)
    refine wpAnyH_ready (rs := [4]) (by kernel_rfl) (by simp) ?_
    refine (AllReadyH.cons rfl (fun K hK => ?_) AllReadyH.nil)
    go_simp
    refine ((stateAhead_any _ _).mono (fun _ _ z => hsa ▸ z)).mono ?_
    rintro e w_ ⟨rfl, hw⟩
    obtain rfl := hw.symm
    clear hw
    try dsimp only
    refine hK.out _ _ (by (try dsimp only); first | exact ⟨F0.out, F1.out⟩ | go_keep) (fun hHeld => ?_)
    clear hK K
    try simp only [Act.put, List.getElem_toArray, List.getElem_cons_succ, List.getElem_cons_zero, List.setIfInBounds_toArray, List.set_cons_zero, List.set_cons_succ]
    refine tkz 5 rfl ?_
    refine tkz 6 rfl ?_
    refine wpAnyH_done (by kernel_rfl) ?_ _
    obtain ⟨w4, hw4⟩ : ∃ w4, w4 = v_1 := ⟨_, rfl⟩
    subst hw4
    have k := HKd.out
    have y1 := F1.out.c 1 _ rfl
    have y3 := F1.out.c 3 _ rfl
    have x3 := F0.out.c 3 _ rfl
    have x4 := F0.out.c 4 _ rfl
    by_cases s : j.st = 0
    · have bs : (j.st != 0) = false := by simpa using s
      by_cases f : e.fl = j.cl.fl
      · have bf : (e.fl != j.cl.fl) = false := by simpa using f
        have HK2 : Hid ((0 : Int) = K) := by show _ = K; rw [← hK]; simp [nextC, k, s, f]
        clear hK
        go_wp2_with fail
        go_ret
        exact ⟨ret_int HK2.out, FB.out⟩
      · have bf : (e.fl != j.cl.fl) = true := by simpa using f
        have HK2 : Hid ((1 : Int) = K) := by show _ = K; rw [← hK]; simp [nextC, k, s, f]
        clear hK
        go_wp2_with fail
        go_ret
        exact ⟨ret_int HK2.out, FB.out⟩
    · have bs : (j.st != 0) = true := by simpa using s
      have HK2 : Hid ((1 : Int) = K) := by show _ = K; rw [← hK]; simp [nextC, k, s]
      clear hK
      go_wp2_with fail
      go_ret
      exact ⟨ret_int HK2.out, FB.out⟩
  · have hsa : saH e.kd = 1 := by simp [saH, k]
    have b2 : (e.kd == 2) = false := by rw [k]; rfl
    have b3 : (e.kd == 3) = true := by simpa using k
    have HKd : Hid (e.kd = _) := k
    clear k
    go_upto_region 7 with fail
    clear y1
    have F0 : Hid (Blk W0.drew w.heap.size [.int .i64 j.cl.tk, .int .i64 j.cl.kd, .int .i64 j.cl.id, .int .i64 j.cl.fl, .int .i64 j.cl.tw, .int .i64 j.bd, .int .i64 j.st]) := F0.out.below (Below.refl _ _).drew F0.out.lt
    have F1 : Hid (Blk W0.drew (w.heap.size + 1) [.int .i64 e.tk, .int .i64 e.kd, .int .i64 e.id, .int .i64 e.fl, .int .i64 e.tw]) := F1.out.below (Below.refl _ _).drew F1.out.lt
    have FB : Hid (Below w.heap.size w W0.drew) := FB.out.drew
    refine wp_region_held_drew (S := (fun w'' => Blk w'' w.heap.size ([.int .i64 j.cl.tk, .int .i64 j.cl.kd, .int .i64 j.cl.id, .int .i64 j.cl.fl, .int .i64 j.cl.tw, .int .i64 j.bd, .int .i64 j.st]) ∧ Blk w'' (w.heap.size + 1) ([.int .i64 e.tk, .int .i64 e.kd, .int .i64 e.id, .int .i64 e.fl, .int .i64 e.tw]))) (by kernel_rfl) (by (try dsimp only); first | exact ⟨F0.out, F1.out⟩ | go_keep) (fun hHeld => ?_)
    obtain ⟨v_2, hw1⟩ : ∃ v_2, v_2 = W0.drew := ⟨_, rfl⟩
    have F0 : Hid (Blk v_2 w.heap.size [.int .i64 j.cl.tk, .int .i64 j.cl.kd, .int .i64 j.cl.id, .int .i64 j.cl.fl, .int .i64 j.cl.tw, .int .i64 j.bd, .int .i64 j.st]) := by rw [hw1]; exact F0.out
    have F1 : Hid (Blk v_2 (w.heap.size + 1) [.int .i64 e.tk, .int .i64 e.kd, .int .i64 e.id, .int .i64 e.fl, .int .i64 e.tw]) := by rw [hw1]; exact F1.out
    have FB : Hid (Below w.heap.size w v_2) := by rw [hw1]; exact FB.out
    rw [← hw1] at hHeld ⊢
    clear hw1
    refine tkz 0 rfl ?_
    refine tkz 1 rfl ?_ (hy := Or.inl ⟨by kernel_rfl, by (intro wx hSw; have hq0_6 := hSw.1.c 6 _ rfl; (try dsimp only at hSw); go_simp <;> with_reducible rfl)⟩)
    refine tkz 2 rfl ?_
    refine tkz 3 rfl ?_ (hy := Or.inl ⟨by kernel_rfl, by (intro wx hSw; have hq1_1 := hSw.2.c 1 _ rfl; (try dsimp only at hSw); go_simp <;> with_reducible rfl)⟩)
    refine wpAnyH_ready (rs := [4]) (by kernel_rfl) (by simp) ?_
    refine (AllReadyH.cons rfl (fun K hK => ?_) AllReadyH.nil)
    go_simp
    refine ((stateAhead_any _ _).mono (fun _ _ z => hsa ▸ z)).mono ?_
    rintro e w_ ⟨rfl, hw⟩
    obtain rfl := hw.symm
    clear hw
    try dsimp only
    refine hK.out _ _ (by (try dsimp only); first | exact ⟨F0.out, F1.out⟩ | go_keep) (fun hHeld => ?_)
    clear hK K
    try simp only [Act.put, List.getElem_toArray, List.getElem_cons_succ, List.getElem_cons_zero, List.setIfInBounds_toArray, List.set_cons_zero, List.set_cons_succ]
    refine tkz 5 rfl ?_
    refine tkz 6 rfl ?_
    refine wpAnyH_done (by kernel_rfl) ?_ _
    obtain ⟨w4, hw4⟩ : ∃ w4, w4 = v_2 := ⟨_, rfl⟩
    subst hw4
    have k := HKd.out
    have y1 := F1.out.c 1 _ rfl
    have y3 := F1.out.c 3 _ rfl
    have x3 := F0.out.c 3 _ rfl
    have x4 := F0.out.c 4 _ rfl
    by_cases s : j.st = 1
    · have bs : (j.st != 1) = false := by simpa using s
      by_cases f : e.fl = j.cl.tw
      · have bf : (e.fl != j.cl.tw) = false := by simpa using f
        have HK2 : Hid ((0 : Int) = K) := by show _ = K; rw [← hK]; simp [nextC, k, s, f]
        clear hK
        go_wp2_with fail
        go_ret
        exact ⟨ret_int HK2.out, FB.out⟩
      · have bf : (e.fl != j.cl.tw) = true := by simpa using f
        have HK2 : Hid ((1 : Int) = K) := by show _ = K; rw [← hK]; simp [nextC, k, s, f]
        clear hK
        go_wp2_with fail
        go_ret
        exact ⟨ret_int HK2.out, FB.out⟩
    · have bs : (j.st != 1) = true := by simpa using s
      have HK2 : Hid ((1 : Int) = K) := by show _ = K; rw [← hK]; simp [nextC, k, s]
      clear hK
      go_wp2_with fail
      go_ret
      exact ⟨ret_int HK2.out, FB.out⟩
  · have hsa : saH e.kd = 1 := by simp [saH, k]
    have b2 : (e.kd == 2) = false := by rw [k]; rfl
    have b3 : (e.kd == 3) = false := by rw [k]; rfl
    have HKd : Hid (e.kd = _) := k
    clear k
    go_upto_region 7 with fail
    clear y1
    have F0 : Hid (Blk W0.drew w.heap.size [.int .i64 j.cl.tk, .int .i64 j.cl.kd, .int .i64 j.cl.id, .int .i64 j.cl.fl, .int .i64 j.cl.tw, .int .i64 j.bd, .int .i64 j.st]) := F0.out.below (Below.refl _ _).drew F0.out.lt
    have F1 : Hid (Blk W0.drew (w.heap.size + 1) [.int .i64 e.tk, .int .i64 e.kd, .int .i64 e.id, .int .i64 e.fl, .int .i64 e.tw]) := F1.out.below (Below.refl _ _).drew F1.out.lt
    have FB : Hid (Below w.heap.size w W0.drew) := FB.out.drew
    refine wp_region_held_drew (S := (fun w'' => Blk w'' w.heap.size ([.int .i64 j.cl.tk, .int .i64 j.cl.kd, .int .i64 j.cl.id, .int .i64 j.cl.fl, .int .i64 j.cl.tw, .int .i64 j.bd, .int .i64 j.st]) ∧ Blk w'' (w.heap.size + 1) ([.int .i64 e.tk, .int .i64 e.kd, .int .i64 e.id, .int .i64 e.fl, .int .i64 e.tw]))) (by kernel_rfl) (by (try dsimp only); first | exact ⟨F0.out, F1.out⟩ | go_keep) (fun hHeld => ?_)
    obtain ⟨v_3, hw1⟩ : ∃ v_3, v_3 = W0.drew := ⟨_, rfl⟩
    have F0 : Hid (Blk v_3 w.heap.size [.int .i64 j.cl.tk, .int .i64 j.cl.kd, .int .i64 j.cl.id, .int .i64 j.cl.fl, .int .i64 j.cl.tw, .int .i64 j.bd, .int .i64 j.st]) := by rw [hw1]; exact F0.out
    have F1 : Hid (Blk v_3 (w.heap.size + 1) [.int .i64 e.tk, .int .i64 e.kd, .int .i64 e.id, .int .i64 e.fl, .int .i64 e.tw]) := by rw [hw1]; exact F1.out
    have FB : Hid (Below w.heap.size w v_3) := by rw [hw1]; exact FB.out
    rw [← hw1] at hHeld ⊢
    clear hw1
    refine tkz 0 rfl ?_
    refine tkz 1 rfl ?_ (hy := Or.inl ⟨by kernel_rfl, by (intro wx hSw; have hq0_6 := hSw.1.c 6 _ rfl; (try dsimp only at hSw); go_simp <;> with_reducible rfl)⟩)
    refine tkz 2 rfl ?_
    refine tkz 3 rfl ?_ (hy := Or.inl ⟨by kernel_rfl, by (intro wx hSw; have hq1_1 := hSw.2.c 1 _ rfl; (try dsimp only at hSw); go_simp <;> with_reducible rfl)⟩)
    refine wpAnyH_ready (rs := [4]) (by kernel_rfl) (by simp) ?_
    refine (AllReadyH.cons rfl (fun K hK => ?_) AllReadyH.nil)
    go_simp
    refine ((stateAhead_any _ _).mono (fun _ _ z => hsa ▸ z)).mono ?_
    rintro e w_ ⟨rfl, hw⟩
    obtain rfl := hw.symm
    clear hw
    try dsimp only
    refine hK.out _ _ (by (try dsimp only); first | exact ⟨F0.out, F1.out⟩ | go_keep) (fun hHeld => ?_)
    clear hK K
    try simp only [Act.put, List.getElem_toArray, List.getElem_cons_succ, List.getElem_cons_zero, List.setIfInBounds_toArray, List.set_cons_zero, List.set_cons_succ]
    refine tkz 5 rfl ?_
    refine tkz 6 rfl ?_
    refine wpAnyH_done (by kernel_rfl) ?_ _
    obtain ⟨w4, hw4⟩ : ∃ w4, w4 = v_3 := ⟨_, rfl⟩
    subst hw4
    have k := HKd.out
    have y1 := F1.out.c 1 _ rfl
    have y3 := F1.out.c 3 _ rfl
    have x3 := F0.out.c 3 _ rfl
    have x4 := F0.out.c 4 _ rfl
    by_cases s : j.st = 1
    · have bs : (j.st != 1) = false := by simpa using s
      have HK2 : Hid ((0 : Int) = K) := by show _ = K; rw [← hK]; simp [nextC, k, s]
      clear hK
      go_wp2_with fail
      go_ret
      exact ⟨ret_int HK2.out, FB.out⟩
    · have bs : (j.st != 1) = true := by simpa using s
      have HK2 : Hid ((1 : Int) = K) := by show _ = K; rw [← hK]; simp [nextC, k, s]
      clear hK
      go_wp2_with fail
      go_ret
      exact ⟨ret_int HK2.out, FB.out⟩
  · have hsa : saH e.kd = 0 := by simp [saH, k]
    have b2 : (e.kd == 2) = false := by rw [k]; rfl
    have b3 : (e.kd == 3) = false := by rw [k]; rfl
    have HKd : Hid (e.kd = _) := k
    clear k
    go_upto_region 7 with fail
    clear y1
    have F0 : Hid (Blk W0.drew w.heap.size [.int .i64 j.cl.tk, .int .i64 j.cl.kd, .int .i64 j.cl.id, .int .i64 j.cl.fl, .int .i64 j.cl.tw, .int .i64 j.bd, .int .i64 j.st]) := F0.out.below (Below.refl _ _).drew F0.out.lt
    have F1 : Hid (Blk W0.drew (w.heap.size + 1) [.int .i64 e.tk, .int .i64 e.kd, .int .i64 e.id, .int .i64 e.fl, .int .i64 e.tw]) := F1.out.below (Below.refl _ _).drew F1.out.lt
    have FB : Hid (Below w.heap.size w W0.drew) := FB.out.drew
    refine wp_region_held_drew (S := (fun w'' => Blk w'' w.heap.size ([.int .i64 j.cl.tk, .int .i64 j.cl.kd, .int .i64 j.cl.id, .int .i64 j.cl.fl, .int .i64 j.cl.tw, .int .i64 j.bd, .int .i64 j.st]) ∧ Blk w'' (w.heap.size + 1) ([.int .i64 e.tk, .int .i64 e.kd, .int .i64 e.id, .int .i64 e.fl, .int .i64 e.tw]))) (by kernel_rfl) (by (try dsimp only); first | exact ⟨F0.out, F1.out⟩ | go_keep) (fun hHeld => ?_)
    obtain ⟨v_4, hw1⟩ : ∃ v_4, v_4 = W0.drew := ⟨_, rfl⟩
    have F0 : Hid (Blk v_4 w.heap.size [.int .i64 j.cl.tk, .int .i64 j.cl.kd, .int .i64 j.cl.id, .int .i64 j.cl.fl, .int .i64 j.cl.tw, .int .i64 j.bd, .int .i64 j.st]) := by rw [hw1]; exact F0.out
    have F1 : Hid (Blk v_4 (w.heap.size + 1) [.int .i64 e.tk, .int .i64 e.kd, .int .i64 e.id, .int .i64 e.fl, .int .i64 e.tw]) := by rw [hw1]; exact F1.out
    have FB : Hid (Below w.heap.size w v_4) := by rw [hw1]; exact FB.out
    rw [← hw1] at hHeld ⊢
    clear hw1
    refine tkz 0 rfl ?_
    refine tkz 1 rfl ?_ (hy := Or.inl ⟨by kernel_rfl, by (intro wx hSw; have hq0_6 := hSw.1.c 6 _ rfl; (try dsimp only at hSw); go_simp <;> with_reducible rfl)⟩)
    refine tkz 2 rfl ?_
    refine tkz 3 rfl ?_ (hy := Or.inl ⟨by kernel_rfl, by (intro wx hSw; have hq1_1 := hSw.2.c 1 _ rfl; (try dsimp only at hSw); go_simp <;> with_reducible rfl)⟩)
    refine wpAnyH_ready (rs := [4]) (by kernel_rfl) (by simp) ?_
    refine (AllReadyH.cons rfl (fun K hK => ?_) AllReadyH.nil)
    go_simp
    refine ((stateAhead_any _ _).mono (fun _ _ z => hsa ▸ z)).mono ?_
    rintro e w_ ⟨rfl, hw⟩
    obtain rfl := hw.symm
    clear hw
    try dsimp only
    refine hK.out _ _ (by (try dsimp only); first | exact ⟨F0.out, F1.out⟩ | go_keep) (fun hHeld => ?_)
    clear hK K
    try simp only [Act.put, List.getElem_toArray, List.getElem_cons_succ, List.getElem_cons_zero, List.setIfInBounds_toArray, List.set_cons_zero, List.set_cons_succ]
    refine tkz 5 rfl ?_
    refine tkz 6 rfl ?_
    refine wpAnyH_done (by kernel_rfl) ?_ _
    obtain ⟨w4, hw4⟩ : ∃ w4, w4 = v_4 := ⟨_, rfl⟩
    subst hw4
    have k := HKd.out
    have y1 := F1.out.c 1 _ rfl
    have y3 := F1.out.c 3 _ rfl
    have x3 := F0.out.c 3 _ rfl
    have x4 := F0.out.c 4 _ rfl
    by_cases s : j.st = 0
    · have bs : (j.st != 0) = false := by simpa using s
      have HK2 : Hid ((0 : Int) = K) := by show _ = K; rw [← hK]; simp [nextC, k, s]
      clear hK
      go_wp2_with fail
      go_ret
      exact ⟨ret_int HK2.out, FB.out⟩
    · have bs : (j.st != 0) = true := by simpa using s
      have HK2 : Hid ((1 : Int) = K) := by show _ = K; rw [← hK]; simp [nextC, k, s]
      clear hK
      go_wp2_with fail
      go_ret
      exact ⟨ret_int HK2.out, FB.out⟩
end Go.Proofs.YtoacnglcneliiaaGreatDoor
