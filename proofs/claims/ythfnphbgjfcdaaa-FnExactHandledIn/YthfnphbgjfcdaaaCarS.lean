/-
  The model's tick of a car.
-/
import Derived.Test.YthfnphbgjfcdaaaCarB
import Derived.Test.YthfnphbgjfcdaaaFnd
namespace Go.Proofs.Ythfnphbgjfcdaaa
open Go.RowKit Pl

/-- What a tick makes of a car. -/
def stepC (h : Hs) (c : Cs) (x : Cm) (d : Int) : Cs :=
  if c.door ≠ 0 ∨ (x.opn = true ∧ c.vel = 0) then (if x.opn = true then ⟨c.pos, c.vel, min h.dO (c.door + 1)⟩ else ⟨c.pos, c.vel, c.door - 1⟩)
  else if x.brk = true ∨ x.opn = true then ⟨c.pos + brk c.vel h.br, brk c.vel h.br, c.door⟩
  else ⟨c.pos + clip h.sp (c.vel + x.push + d), clip h.sp (c.vel + x.push + d), c.door⟩

theorem l1Min_any (a b : Int) (w : World) :
    Calls Try.prog 52 #[.int .i64 a, .int .i64 b] w fun e w' => e = .returned (.int .i64 (min a b)) ∧ w' = w := by
  by_cases c : a < b
  all_goals
    go_enter Try.func52, Try.ntmps52
    go_wp2
    go_ret
    exact ⟨ret_int (by omega), rfl⟩
theorem l1Max_any (a b : Int) (w : World) :
    Calls Try.prog 63 #[.int .i64 a, .int .i64 b] w fun e w' => e = .returned (.int .i64 (max a b)) ∧ w' = w := by
  by_cases c : b < a
  all_goals
    go_enter Try.func63, Try.ntmps63
    go_wp2
    go_ret
    exact ⟨ret_int (by omega), rfl⟩
theorem l1ClipM_any (v m : Int) (m0 : 0 ≤ m) (m1 : m ≤ 1000000000000000) (w : World) :
    Calls Try.prog 54 #[.int .i64 v, .int .i64 m] w fun e w' => e = .returned (.int .i64 (clip m v)) ∧ w' = w := by
  have he : max (-m) (min m v) = clip m v := by unfold clip; (repeat' split) <;> omega
  have HE : Hid (max (-m) (min m v) = clip m v) := he
  clear he
  go_enter Try.func54, Try.ntmps54
  go_wp2_with (first | (go_at_call 52; refine (l1Min_any _ _ _).mono ?_; rintro e w' ⟨rfl, rfl⟩) | (go_at_call 63; refine (l1Max_any _ _ _).mono ?_; rintro e w' ⟨rfl, rfl⟩))
  go_ret
  exact ⟨ret_int HE.out, rfl⟩
theorem clip_bd (m v : Int) (m0 : 0 ≤ m) : -m ≤ clip m v ∧ clip m v ≤ m := by unfold clip; (repeat' split) <;> omega
theorem brk_in (v b m : Int) (v1 : -m ≤ v) (v2 : v ≤ m) (b1 : 1 ≤ b) : -m ≤ brk v b ∧ brk v b ≤ m := by unfold brk; (repeat' split) <;> omega

set_option maxHeartbeats 4000000 in
theorem l3Step_any (h : Hs) (c : Cs) (x : Cm) (d : Int) (k : CarOk h c) (x1 : -h.pu ≤ x.push) (x2 : x.push ≤ h.pu) (d1 : -h.dr ≤ d) (d2 : d ≤ h.dr) (g : Cs) (hg : stepC h c x d = g) (w : World) :
    Calls Try.prog 43 #[.agg #[.int .i64 h.fl, .int .i64 h.gp, .int .i64 h.ln, .int .i64 h.rf, .int .i64 h.sp, .int .i64 h.pu, .int .i64 h.br, .int .i64 h.dr, .int .i64 h.lv, .int .i64 h.dO, .int .i64 h.ld, .int .i64 h.qu], .agg #[.int .i64 c.pos, .int .i64 c.vel, .int .i64 c.door], .agg #[.int .i64 x.push, .bool x.brk, .bool x.opn], .int .i64 d] w fun e w' => e = .returned (.agg #[.int .i64 g.pos, .int .i64 g.vel, .int .i64 g.door]) ∧ Below w.heap.size w w' := by
  have o := k.ok
  have en := o.ends; have s1 := o.sp1; have s2 := o.sp2; have q1 := o.pu1; have q2 := o.pu2; have r1 := o.dr1; have r2 := o.dr2; have t1 := o.do1; have t2 := o.do2; have u1 := o.br1; have u2 := o.br2
  have p1 := k.p1; have p2 := k.p2; have v1 := k.v1; have v2 := k.v2; have e1 := k.d1; have e2 := k.d2
  clear o
  have cb := clip_bd h.sp (c.vel + x.push + d) (by omega)
  have bb := brk_in c.vel h.br h.sp v1 v2 (by omega)
  unfold stepC at hg
  by_cases z : c.door = 0
  · have b0 : (c.door != 0) = false := by simpa using z
    rcases Bool.eq_false_or_eq_true x.opn with hop | hop
    · by_cases vz : c.vel = 0
      · have b1 : (c.vel == 0) = true := by simpa using vz
        rw [if_pos (Or.inr ⟨hop, vz⟩), if_pos hop] at hg
        subst hg
        clear z vz
        go_enter Try.func43, Try.ntmps43
        go_wp2_with (first | (go_at_call 52; refine (l1Min_any _ _ _).mono ?_; rintro e w' ⟨rfl, hw⟩; obtain rfl := hw.symm; clear hw) | (go_at_call 53; refine (l1Brake_any _ _ (by omega) (by omega) (by omega) (by omega) _).mono ?_; rintro e w' ⟨rfl, hw⟩; obtain rfl := hw.symm; clear hw) | (go_at_call 54; refine (l1ClipM_any _ _ (by omega) (by omega) _).mono ?_; rintro e w' ⟨rfl, hw⟩; obtain rfl := hw.symm; clear hw))
        all_goals exact bodyPost_ret (v := .agg #[.int .i64 (c.pos), .int .i64 (c.vel), .int .i64 (min h.dO (c.door + 1))]) (by simp [results, Try.results43, go_sem]) rfl ⟨rfl, by repeat (first | exact Below.refl _ _ | apply Below.drew | (refine Below.alloc ?_ ?_ _) | (refine Below.setCell ?_ ?_ _) | (simp; omega) | simp)⟩
      · have b1 : (c.vel == 0) = false := by simpa using vz
        rw [if_neg (by simp [z, vz]), if_pos (Or.inr hop)] at hg
        subst hg
        clear z vz
        go_enter Try.func43, Try.ntmps43
        go_wp2_with (first | (go_at_call 52; refine (l1Min_any _ _ _).mono ?_; rintro e w' ⟨rfl, hw⟩; obtain rfl := hw.symm; clear hw) | (go_at_call 53; refine (l1Brake_any _ _ (by omega) (by omega) (by omega) (by omega) _).mono ?_; rintro e w' ⟨rfl, hw⟩; obtain rfl := hw.symm; clear hw) | (go_at_call 54; refine (l1ClipM_any _ _ (by omega) (by omega) _).mono ?_; rintro e w' ⟨rfl, hw⟩; obtain rfl := hw.symm; clear hw))
        all_goals exact bodyPost_ret (v := .agg #[.int .i64 (c.pos + brk c.vel h.br), .int .i64 (brk c.vel h.br), .int .i64 (c.door)]) (by simp [results, Try.results43, go_sem]) rfl ⟨rfl, by repeat (first | exact Below.refl _ _ | apply Below.drew | (refine Below.alloc ?_ ?_ _) | (refine Below.setCell ?_ ?_ _) | (simp; omega) | simp)⟩
    · rcases Bool.eq_false_or_eq_true x.brk with hbk | hbk
      · rw [if_neg (by simp [z, hop]), if_pos (Or.inl hbk)] at hg
        subst hg
        clear z
        go_enter Try.func43, Try.ntmps43
        go_wp2_with (first | (go_at_call 52; refine (l1Min_any _ _ _).mono ?_; rintro e w' ⟨rfl, hw⟩; obtain rfl := hw.symm; clear hw) | (go_at_call 53; refine (l1Brake_any _ _ (by omega) (by omega) (by omega) (by omega) _).mono ?_; rintro e w' ⟨rfl, hw⟩; obtain rfl := hw.symm; clear hw) | (go_at_call 54; refine (l1ClipM_any _ _ (by omega) (by omega) _).mono ?_; rintro e w' ⟨rfl, hw⟩; obtain rfl := hw.symm; clear hw))
        all_goals exact bodyPost_ret (v := .agg #[.int .i64 (c.pos + brk c.vel h.br), .int .i64 (brk c.vel h.br), .int .i64 (c.door)]) (by simp [results, Try.results43, go_sem]) rfl ⟨rfl, by repeat (first | exact Below.refl _ _ | apply Below.drew | (refine Below.alloc ?_ ?_ _) | (refine Below.setCell ?_ ?_ _) | (simp; omega) | simp)⟩
      · rw [if_neg (by simp [z, hop]), if_neg (by simp [hbk, hop])] at hg
        subst hg
        clear z
        go_enter Try.func43, Try.ntmps43
        go_wp2_with (first | (go_at_call 52; refine (l1Min_any _ _ _).mono ?_; rintro e w' ⟨rfl, hw⟩; obtain rfl := hw.symm; clear hw) | (go_at_call 53; refine (l1Brake_any _ _ (by omega) (by omega) (by omega) (by omega) _).mono ?_; rintro e w' ⟨rfl, hw⟩; obtain rfl := hw.symm; clear hw) | (go_at_call 54; refine (l1ClipM_any _ _ (by omega) (by omega) _).mono ?_; rintro e w' ⟨rfl, hw⟩; obtain rfl := hw.symm; clear hw))
        all_goals exact bodyPost_ret (v := .agg #[.int .i64 (c.pos + clip h.sp (c.vel + x.push + d)), .int .i64 (clip h.sp (c.vel + x.push + d)), .int .i64 (c.door)]) (by simp [results, Try.results43, go_sem]) rfl ⟨rfl, by repeat (first | exact Below.refl _ _ | apply Below.drew | (refine Below.alloc ?_ ?_ _) | (refine Below.setCell ?_ ?_ _) | (simp; omega) | simp)⟩
  · have b0 : (c.door != 0) = true := by simpa using z
    rcases Bool.eq_false_or_eq_true x.opn with hop | hop
    · rw [if_pos (Or.inl z), if_pos hop] at hg
      subst hg
      clear z
      go_enter Try.func43, Try.ntmps43
      go_wp2_with (first | (go_at_call 52; refine (l1Min_any _ _ _).mono ?_; rintro e w' ⟨rfl, hw⟩; obtain rfl := hw.symm; clear hw) | (go_at_call 53; refine (l1Brake_any _ _ (by omega) (by omega) (by omega) (by omega) _).mono ?_; rintro e w' ⟨rfl, hw⟩; obtain rfl := hw.symm; clear hw) | (go_at_call 54; refine (l1ClipM_any _ _ (by omega) (by omega) _).mono ?_; rintro e w' ⟨rfl, hw⟩; obtain rfl := hw.symm; clear hw))
      all_goals exact bodyPost_ret (v := .agg #[.int .i64 (c.pos), .int .i64 (c.vel), .int .i64 (min h.dO (c.door + 1))]) (by simp [results, Try.results43, go_sem]) rfl ⟨rfl, by repeat (first | exact Below.refl _ _ | apply Below.drew | (refine Below.alloc ?_ ?_ _) | (refine Below.setCell ?_ ?_ _) | (simp; omega) | simp)⟩
    · rw [if_pos (Or.inl z), if_neg (by simp [hop])] at hg
      subst hg
      clear z
      go_enter Try.func43, Try.ntmps43
      go_wp2_with (first | (go_at_call 52; refine (l1Min_any _ _ _).mono ?_; rintro e w' ⟨rfl, hw⟩; obtain rfl := hw.symm; clear hw) | (go_at_call 53; refine (l1Brake_any _ _ (by omega) (by omega) (by omega) (by omega) _).mono ?_; rintro e w' ⟨rfl, hw⟩; obtain rfl := hw.symm; clear hw) | (go_at_call 54; refine (l1ClipM_any _ _ (by omega) (by omega) _).mono ?_; rintro e w' ⟨rfl, hw⟩; obtain rfl := hw.symm; clear hw))
      all_goals exact bodyPost_ret (v := .agg #[.int .i64 (c.pos), .int .i64 (c.vel), .int .i64 (c.door - 1)]) (by simp [results, Try.results43, go_sem]) rfl ⟨rfl, by repeat (first | exact Below.refl _ _ | apply Below.drew | (refine Below.alloc ?_ ?_ _) | (refine Below.setCell ?_ ?_ _) | (simp; omega) | simp)⟩

/-- A code and a car are answered, and nothing that was there has turned. -/
def isCar (w : World) (k : Int) (g : Cs) (e : Ending) (w' : World) : Prop :=
  e = .returned (.agg #[.int .i64 k, .int .i64 g.pos, .int .i64 g.vel, .int .i64 g.door]) ∧ Below w.heap.size w w'
/-- What StepCar answers: its code. -/
def Hs.stepF (h : Hs) (c : Cs) (x : Cm) (d : Int) : Int := if h.car c = 0 then (if h.cmd x = 0 then (if inB d (-h.dr) h.dr = true then 0 else 3) else h.cmd x) else h.car c
theorem cmd_push {h : Hs} {x : Cm} (hf : h.fault = 0) (e : h.cmd x = 0) : -h.pu ≤ x.push ∧ x.push ≤ h.pu := by
  rw [Hs.cmd_ok hf] at e
  unfold Hs.cmdC at e
  cases hi : inB x.push (-h.pu) h.pu with
  | true => exact inB_iff.1 hi
  | false => rw [hi] at e; simp at e

end Go.Proofs.Ythfnphbgjfcdaaa
