/-
  The program's journeys: one event on.
-/
import Derived.Test.YtoacnglcneliiaaGreatDoorEvQ
import Derived.Test.YtoacnglcneliiaaGreatDoorEvA
import Derived.Test.YtoacnglcneliiaaGreatDoorFnd
namespace Go.Proofs.YtoacnglcneliiaaGreatDoor
open Go.RowKit Pl
set_option linter.unusedSimpArgs false
set_option linter.unusedVariables false

theorem step_ev {P : Program} {ops : Array Oper} {o : Oper} {a : Act} {w : World} {K : Act → World → Prop} {Q : Exit → Act → World → Prop} {E : Prop} (hg : o.guard = none) (h : Oper.wp P o a w K Q) : if Region.wanted o (yielded ops a.tmps) = true then Oper.wp P o a w K Q else E := by
  rw [if_pos (by simp [Region.wanted, hg])]
  exact h
/-- The state that is asked ahead of an event of that kind. -/
def saH (kd : Int) : Int := if kd = 2 ∨ kd = 5 then 0 else 1
set_option maxRecDepth 20000 in
set_option maxHeartbeats 16000000 in
theorem stateAhead_any (k : Int) (w : World) :
    Calls Tryz.prog 77 #[.int .i64 k] w fun e w' => e = .returned (.int .i64 (saH k)) ∧ w' = w := by
  by_cases a : k = 2
  · have e : saH k = 0 := by simp [saH, a]
    rw [e]
    subst a
    go_enter Tryz.func77, Tryz.ntmps77
    go_wp2
    go_ret
    exact ⟨rfl, rfl⟩
  · have a1 : (k == 2) = false := by simpa using a
    by_cases b : k = 5
    · have e : saH k = 0 := by simp [saH, b]
      rw [e]
      subst b
      go_enter Tryz.func77, Tryz.ntmps77
      go_wp2
      go_ret
      exact ⟨rfl, rfl⟩
    · have b1 : (k == 5) = false := by simpa using b
      have e : saH k = 1 := by simp [saH, a, b]
      rw [e]
      go_enter Tryz.func77, Tryz.ntmps77
      go_wp2
      go_ret
      exact ⟨rfl, rfl⟩
set_option maxRecDepth 20000 in
set_option maxHeartbeats 16000000 in
theorem stateBehindA_any (k : Int) (h1 : 1 ≤ k) (h2 : k ≤ 5) (w : World) :
    Calls Tryz.prog 78 #[.int .i64 k] w fun e w' => e = .returned (.int .i64 (stA k)) ∧ w' = w := by
  have hk : k = 1 ∨ k = 2 ∨ k = 3 ∨ k = 4 ∨ k = 5 := by omega
  rcases hk with rfl | rfl | rfl | rfl | rfl
  all_goals
    go_enter Tryz.func78, Tryz.ntmps78
    go_wp2
    go_ret
    exact ⟨rfl, rfl⟩
set_option maxRecDepth 20000 in
set_option maxHeartbeats 16000000 in
theorem goneOn_any (j : Jn) (e : Ev) (h1 : 1 ≤ e.kd) (h2 : e.kd ≤ 5) (w : World) :
    Calls Tryz.prog 52 #[.agg #[.int .i64 j.cl.tk, .int .i64 j.cl.kd, .int .i64 j.cl.id, .int .i64 j.cl.fl, .int .i64 j.cl.tw, .int .i64 j.bd, .int .i64 j.st], .agg #[.int .i64 e.tk, .int .i64 e.kd, .int .i64 e.id, .int .i64 e.fl, .int .i64 e.tw]] w fun r w' => r = .returned (jval (goneJ j e)) ∧ Below w.heap.size w w' := by
  obtain ⟨W3, hW0⟩ : ∃ W3, W3 = (((w.alloc (.cells #[.int .i64 j.cl.tk, .int .i64 j.cl.kd, .int .i64 j.cl.id, .int .i64 j.cl.fl, .int .i64 j.cl.tw, .int .i64 j.bd, .int .i64 j.st] 91)).alloc (.cells #[.int .i64 e.tk, .int .i64 e.kd, .int .i64 e.id, .int .i64 e.fl, .int .i64 e.tw] 34)).alloc (.cells #[.int .i64 0, .int .i64 0, .int .i64 0, .int .i64 0, .int .i64 0, .int .i64 0, .int .i64 0] 91)) := ⟨_, rfl⟩
  have F0 : Hid (Blk W3 w.heap.size [.int .i64 j.cl.tk, .int .i64 j.cl.kd, .int .i64 j.cl.id, .int .i64 j.cl.fl, .int .i64 j.cl.tw, .int .i64 j.bd, .int .i64 j.st]) := by rw [hW0]; exact ((Blk.at_ w _ _ _ rfl).alloc _).alloc _
  have F1 : Hid (Blk W3 (w.heap.size + 1) [.int .i64 e.tk, .int .i64 e.kd, .int .i64 e.id, .int .i64 e.fl, .int .i64 e.tw]) := by rw [hW0]; exact (Blk.at_ _ _ _ _ (by simp)).alloc _
  have FR : Hid (Blk W3 (w.heap.size + 2) [.int .i64 0, .int .i64 0, .int .i64 0, .int .i64 0, .int .i64 0, .int .i64 0, .int .i64 0]) := by rw [hW0]; exact Blk.at_ _ _ _ _ (by simp)
  have FB : Hid (Below w.heap.size w W3) := by rw [hW0]; exact (((Below.refl _ _).alloc (Nat.le_refl _) _).alloc (by simp) _).alloc (by simp; omega) _
  have HW0 : Hid (W3 = (((w.alloc (.cells #[.int .i64 j.cl.tk, .int .i64 j.cl.kd, .int .i64 j.cl.id, .int .i64 j.cl.fl, .int .i64 j.cl.tw, .int .i64 j.bd, .int .i64 j.st] 91)).alloc (.cells #[.int .i64 e.tk, .int .i64 e.kd, .int .i64 e.id, .int .i64 e.fl, .int .i64 e.tw] 34)).alloc (.cells #[.int .i64 0, .int .i64 0, .int .i64 0, .int .i64 0, .int .i64 0, .int .i64 0, .int .i64 0] 91))) := hW0
  clear hW0
  go_enter Tryz.func52, Tryz.ntmps52
  go_upto_region 1 with fail
  rw [← HW0.out]
  clear HW0
  have e1_ := F1.out.c 1 _ rfl
  by_cases k1 : e.kd = 1
  · have b1 : (e.kd == 1) = true := by simpa using k1
    have HGJ : Hid (goneJ j e = ⟨e, j.bd, stA e.kd⟩) := by show _ = _; unfold goneJ; rw [if_pos k1, if_neg (by rw [k1]; decide)]
    clear k1
    have s0_ := F0.out.c 0 _ rfl
    have s1_ := F0.out.c 1 _ rfl
    have s2_ := F0.out.c 2 _ rfl
    have s3_ := F0.out.c 3 _ rfl
    have s4_ := F0.out.c 4 _ rfl
    have q0_ := F0.out.f 0 (Nat.le_of_ble_eq_true rfl)
    have q1_ := F0.out.f 1 (Nat.le_of_ble_eq_true rfl)
    have q2_ := F0.out.f 2 (Nat.le_of_ble_eq_true rfl)
    have q3_ := F0.out.f 3 (Nat.le_of_ble_eq_true rfl)
    have q4_ := F0.out.f 4 (Nat.le_of_ble_eq_true rfl)
    go_upto_region 6 with (refine load_blk 34 _ Tryz.underlying34 (by kernel_rfl) F1.out rfl rfl rfl ?_)
    clear e1_ s0_ q0_ s1_ q1_ s2_ q2_ s3_ q3_ s4_ q4_
    obtain ⟨W4, hw_⟩ : ∃ W4, W4 = (((((W3.setCell ⟨w.heap.size, 0, none⟩ (.int .i64 e.tk)).setCell ⟨w.heap.size, 1, none⟩ (.int .i64 e.kd)).setCell ⟨w.heap.size, 2, none⟩ (.int .i64 e.id)).setCell ⟨w.heap.size, 3, none⟩ (.int .i64 e.fl)).setCell ⟨w.heap.size, 4, none⟩ (.int .i64 e.tw)) := ⟨_, rfl⟩
    have F0 : Hid (Blk W4 w.heap.size [.int .i64 e.tk, .int .i64 e.kd, .int .i64 e.id, .int .i64 e.fl, .int .i64 e.tw, .int .i64 j.bd, .int .i64 j.st]) := by rw [hw_]; exact putB_set [.int .i64 e.tk, .int .i64 e.kd, .int .i64 e.id, .int .i64 e.fl, .int .i64 e.tw] [.int .i64 j.cl.tk, .int .i64 j.cl.kd, .int .i64 j.cl.id, .int .i64 j.cl.fl, .int .i64 j.cl.tw, .int .i64 j.bd, .int .i64 j.st] 0 _ F0.out (by simp)
    have F1 : Hid (Blk W4 (w.heap.size + 1) [.int .i64 e.tk, .int .i64 e.kd, .int .i64 e.id, .int .i64 e.fl, .int .i64 e.tw]) := by rw [hw_]; exact (((((F1.out.other (by omega)).other (by omega)).other (by omega)).other (by omega)).other (by omega))
    have FR : Hid (Blk W4 (w.heap.size + 2) [.int .i64 0, .int .i64 0, .int .i64 0, .int .i64 0, .int .i64 0, .int .i64 0, .int .i64 0]) := by rw [hw_]; exact (((((FR.out.other (by omega)).other (by omega)).other (by omega)).other (by omega)).other (by omega))
    have FB : Hid (Below w.heap.size w W4) := by rw [hw_]; exact (((((FB.out.setCell (show w.heap.size ≤ w.heap.size by omega) _).setCell (show w.heap.size ≤ w.heap.size by omega) _).setCell (show w.heap.size ≤ w.heap.size by omega) _).setCell (show w.heap.size ≤ w.heap.size by omega) _).setCell (show w.heap.size ≤ w.heap.size by omega) _)
    rw [← hw_]
    clear hw_
    have e1_ := F1.out.c 1 _ rfl
    have s6_ := F0.out.c 6 _ rfl
    have q6_ := F0.out.f 6 (Nat.le_of_ble_eq_true rfl)
    go_upto_region 7 with (go_at_call 78; refine (stateBehindA_any _ h1 h2 _).mono ?_; rintro r w' ⟨rfl, hw⟩; obtain rfl := hw.symm; clear hw)
    clear e1_ s6_ q6_
    obtain ⟨W5, hw_⟩ : ∃ W5, W5 = W4.setCell ⟨w.heap.size, 6, none⟩ (.int .i64 (stA e.kd)) := ⟨_, rfl⟩
    have F0 : Hid (Blk W5 w.heap.size [.int .i64 e.tk, .int .i64 e.kd, .int .i64 e.id, .int .i64 e.fl, .int .i64 e.tw, .int .i64 j.bd, .int .i64 (stA e.kd)]) := by rw [hw_]; exact F0.out.set _ (Nat.le_of_ble_eq_true rfl)
    have F1 : Hid (Blk W5 (w.heap.size + 1) [.int .i64 e.tk, .int .i64 e.kd, .int .i64 e.id, .int .i64 e.fl, .int .i64 e.tw]) := by rw [hw_]; exact F1.out.other (by omega)
    have FR : Hid (Blk W5 (w.heap.size + 2) [.int .i64 0, .int .i64 0, .int .i64 0, .int .i64 0, .int .i64 0, .int .i64 0, .int .i64 0]) := by rw [hw_]; exact FR.out.other (by omega)
    have FB : Hid (Below w.heap.size w W5) := by rw [hw_]; exact FB.out.setCell (show w.heap.size ≤ w.heap.size by omega) _
    rw [← hw_]
    clear hw_
    go_wp2_with (first | (refine load_blk 91 _ Tryz.underlying91 (by kernel_rfl) F0.out rfl rfl rfl ?_) | (refine store_blk [.int .i64 e.tk, .int .i64 e.kd, .int .i64 e.id, .int .i64 e.fl, .int .i64 e.tw, .int .i64 j.bd, .int .i64 (stA e.kd)] 91 _ _ (by kernel_rfl) (by kernel_rfl) (by kernel_rfl) FR.out rfl rfl rfl rfl ?_))
    exact bodyPost_ret (v := .agg #[.int .i64 e.tk, .int .i64 e.kd, .int .i64 e.id, .int .i64 e.fl, .int .i64 e.tw, .int .i64 j.bd, .int .i64 (stA e.kd)]) ((FR.out.row [.int .i64 e.tk, .int .i64 e.kd, .int .i64 e.id, .int .i64 e.fl, .int .i64 e.tw, .int .i64 j.bd, .int .i64 (stA e.kd)]).res _ Tryz.results52 Tryz.underlying91 (by kernel_rfl) rfl) rfl ⟨by rw [HGJ.out]; rfl, below_row FB.out (by omega) _⟩
  have b1 : (e.kd == 1) = false := by simpa using k1
  by_cases k2 : e.kd = 2
  · have b2 : (e.kd == 2) = true := by simpa using k2
    have HGJ : Hid (goneJ j e = ⟨j.cl, e.tk, stA e.kd⟩) := by show _ = _; unfold goneJ; rw [if_neg k1, if_pos k2]
    clear k1 k2
    have e0_ := F1.out.c 0 _ rfl
    have s5_ := F0.out.c 5 _ rfl
    have q5_ := F0.out.f 5 (Nat.le_of_ble_eq_true rfl)
    go_upto_region 6 with fail
    clear e0_ e1_ s5_ q5_
    obtain ⟨W4, hw_⟩ : ∃ W4, W4 = W3.setCell ⟨w.heap.size, 5, none⟩ (.int .i64 e.tk) := ⟨_, rfl⟩
    have F0 : Hid (Blk W4 w.heap.size [.int .i64 j.cl.tk, .int .i64 j.cl.kd, .int .i64 j.cl.id, .int .i64 j.cl.fl, .int .i64 j.cl.tw, .int .i64 e.tk, .int .i64 j.st]) := by rw [hw_]; exact F0.out.set _ (Nat.le_of_ble_eq_true rfl)
    have F1 : Hid (Blk W4 (w.heap.size + 1) [.int .i64 e.tk, .int .i64 e.kd, .int .i64 e.id, .int .i64 e.fl, .int .i64 e.tw]) := by rw [hw_]; exact F1.out.other (by omega)
    have FR : Hid (Blk W4 (w.heap.size + 2) [.int .i64 0, .int .i64 0, .int .i64 0, .int .i64 0, .int .i64 0, .int .i64 0, .int .i64 0]) := by rw [hw_]; exact FR.out.other (by omega)
    have FB : Hid (Below w.heap.size w W4) := by rw [hw_]; exact FB.out.setCell (show w.heap.size ≤ w.heap.size by omega) _
    rw [← hw_]
    clear hw_
    have e1_ := F1.out.c 1 _ rfl
    have s6_ := F0.out.c 6 _ rfl
    have q6_ := F0.out.f 6 (Nat.le_of_ble_eq_true rfl)
    go_upto_region 7 with (go_at_call 78; refine (stateBehindA_any _ h1 h2 _).mono ?_; rintro r w' ⟨rfl, hw⟩; obtain rfl := hw.symm; clear hw)
    clear e1_ s6_ q6_
    obtain ⟨W5, hw_⟩ : ∃ W5, W5 = W4.setCell ⟨w.heap.size, 6, none⟩ (.int .i64 (stA e.kd)) := ⟨_, rfl⟩
    have F0 : Hid (Blk W5 w.heap.size [.int .i64 j.cl.tk, .int .i64 j.cl.kd, .int .i64 j.cl.id, .int .i64 j.cl.fl, .int .i64 j.cl.tw, .int .i64 e.tk, .int .i64 (stA e.kd)]) := by rw [hw_]; exact F0.out.set _ (Nat.le_of_ble_eq_true rfl)
    have F1 : Hid (Blk W5 (w.heap.size + 1) [.int .i64 e.tk, .int .i64 e.kd, .int .i64 e.id, .int .i64 e.fl, .int .i64 e.tw]) := by rw [hw_]; exact F1.out.other (by omega)
    have FR : Hid (Blk W5 (w.heap.size + 2) [.int .i64 0, .int .i64 0, .int .i64 0, .int .i64 0, .int .i64 0, .int .i64 0, .int .i64 0]) := by rw [hw_]; exact FR.out.other (by omega)
    have FB : Hid (Below w.heap.size w W5) := by rw [hw_]; exact FB.out.setCell (show w.heap.size ≤ w.heap.size by omega) _
    rw [← hw_]
    clear hw_
    go_wp2_with (first | (refine load_blk 91 _ Tryz.underlying91 (by kernel_rfl) F0.out rfl rfl rfl ?_) | (refine store_blk [.int .i64 j.cl.tk, .int .i64 j.cl.kd, .int .i64 j.cl.id, .int .i64 j.cl.fl, .int .i64 j.cl.tw, .int .i64 e.tk, .int .i64 (stA e.kd)] 91 _ _ (by kernel_rfl) (by kernel_rfl) (by kernel_rfl) FR.out rfl rfl rfl rfl ?_))
    exact bodyPost_ret (v := .agg #[.int .i64 j.cl.tk, .int .i64 j.cl.kd, .int .i64 j.cl.id, .int .i64 j.cl.fl, .int .i64 j.cl.tw, .int .i64 e.tk, .int .i64 (stA e.kd)]) ((FR.out.row [.int .i64 j.cl.tk, .int .i64 j.cl.kd, .int .i64 j.cl.id, .int .i64 j.cl.fl, .int .i64 j.cl.tw, .int .i64 e.tk, .int .i64 (stA e.kd)]).res _ Tryz.results52 Tryz.underlying91 (by kernel_rfl) rfl) rfl ⟨by rw [HGJ.out]; rfl, below_row FB.out (by omega) _⟩
  have b2 : (e.kd == 2) = false := by simpa using k2
  have HGJ : Hid (goneJ j e = ⟨j.cl, j.bd, stA e.kd⟩) := by show _ = _; unfold goneJ; rw [if_neg k1, if_neg k2]
  clear k1 k2
  obtain ⟨W4, hW4⟩ : ∃ W4, W4 = W3 := ⟨_, rfl⟩
  subst hW4
  go_upto_region 6 with fail
  clear e1_
  have e1_ := F1.out.c 1 _ rfl
  have s6_ := F0.out.c 6 _ rfl
  have q6_ := F0.out.f 6 (Nat.le_of_ble_eq_true rfl)
  go_upto_region 7 with (go_at_call 78; refine (stateBehindA_any _ h1 h2 _).mono ?_; rintro r w' ⟨rfl, hw⟩; obtain rfl := hw.symm; clear hw)
  clear e1_ s6_ q6_
  obtain ⟨W5, hw_⟩ : ∃ W5, W5 = W4.setCell ⟨w.heap.size, 6, none⟩ (.int .i64 (stA e.kd)) := ⟨_, rfl⟩
  have F0 : Hid (Blk W5 w.heap.size [.int .i64 j.cl.tk, .int .i64 j.cl.kd, .int .i64 j.cl.id, .int .i64 j.cl.fl, .int .i64 j.cl.tw, .int .i64 j.bd, .int .i64 (stA e.kd)]) := by rw [hw_]; exact F0.out.set _ (Nat.le_of_ble_eq_true rfl)
  have F1 : Hid (Blk W5 (w.heap.size + 1) [.int .i64 e.tk, .int .i64 e.kd, .int .i64 e.id, .int .i64 e.fl, .int .i64 e.tw]) := by rw [hw_]; exact F1.out.other (by omega)
  have FR : Hid (Blk W5 (w.heap.size + 2) [.int .i64 0, .int .i64 0, .int .i64 0, .int .i64 0, .int .i64 0, .int .i64 0, .int .i64 0]) := by rw [hw_]; exact FR.out.other (by omega)
  have FB : Hid (Below w.heap.size w W5) := by rw [hw_]; exact FB.out.setCell (show w.heap.size ≤ w.heap.size by omega) _
  rw [← hw_]
  clear hw_
  go_wp2_with (first | (refine load_blk 91 _ Tryz.underlying91 (by kernel_rfl) F0.out rfl rfl rfl ?_) | (refine store_blk [.int .i64 j.cl.tk, .int .i64 j.cl.kd, .int .i64 j.cl.id, .int .i64 j.cl.fl, .int .i64 j.cl.tw, .int .i64 j.bd, .int .i64 (stA e.kd)] 91 _ _ (by kernel_rfl) (by kernel_rfl) (by kernel_rfl) FR.out rfl rfl rfl rfl ?_))
  exact bodyPost_ret (v := .agg #[.int .i64 j.cl.tk, .int .i64 j.cl.kd, .int .i64 j.cl.id, .int .i64 j.cl.fl, .int .i64 j.cl.tw, .int .i64 j.bd, .int .i64 (stA e.kd)]) ((FR.out.row [.int .i64 j.cl.tk, .int .i64 j.cl.kd, .int .i64 j.cl.id, .int .i64 j.cl.fl, .int .i64 j.cl.tw, .int .i64 j.bd, .int .i64 (stA e.kd)]).res _ Tryz.results52 Tryz.underlying91 (by kernel_rfl) rfl) rfl ⟨by rw [HGJ.out]; rfl, below_row FB.out (by omega) _⟩
end Go.Proofs.YtoacnglcneliiaaGreatDoor
