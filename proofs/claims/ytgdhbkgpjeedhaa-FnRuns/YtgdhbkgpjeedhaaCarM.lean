/-
  The program's tick of a car: the order that a command becomes, and the car behind it.
-/
import Derived.Test.YtgdhbkgpjeedhaaCarI
import Derived.Test.YtgdhbkgpjeedhaaCarS
import Derived.Test.YtgdhbkgpjeedhaaFnd
namespace Go.Proofs.Ytgdhbkgpjeedhaa
open Go.RowKit Pl
set_option linter.unusedSimpArgs false
set_option linter.unusedVariables false

/-- The order that a car carries out. -/
def ordV (c : Cs) (x : Cm) (d : Int) : Value :=
  if x.opn = true ∧ c.vel = 0 then .iface 81 (.agg #[.int .i64 1])
  else if c.door ≠ 0 then .iface 81 (.agg #[.int .i64 (-1)])
  else if x.brk = true ∨ x.opn = true then .iface 83 (.agg #[])
  else .iface 88 (.agg #[.int .i64 (x.push + d)])
theorem ret_v {a b : Value} (h : a = b) : Ending.returned a = .returned b := by rw [h]

set_option maxHeartbeats 2000000 in
theorem orderFor_any (c : Cs) (x : Cm) (d : Int) (x1 : -500 ≤ x.push) (x2 : x.push ≤ 500) (d1 : -500 ≤ d) (d2 : d ≤ 500) (w : World) :
    Calls Try.prog 54 #[.agg #[.int .i64 c.pos, .int .i64 c.vel, .int .i64 c.door], .agg #[.int .i64 x.push, .bool x.brk, .bool x.opn], .int .i64 d] w fun e w' => e = .returned (ordV c x d) ∧ Below w.heap.size w w' := by
  obtain ⟨o, ho⟩ : ∃ o, ordV c x d = o := ⟨_, rfl⟩
  rw [ho]
  unfold ordV at ho
  rcases Bool.eq_false_or_eq_true x.opn with hop | hop
  · by_cases vz : c.vel = 0
    · rw [if_pos ⟨hop, vz⟩] at ho
      subst ho
      have b1 : (c.vel == 0) = true := by simpa using vz
      clear vz
      go_enter Try.func54, Try.ntmps54
      go_wp2
      go_ret
      exact ⟨rfl, by repeat (first | exact Below.refl _ _ | (refine Below.alloc ?_ ?_ _) | (simp; omega) | simp)⟩
    · rw [if_neg (by simp [vz])] at ho
      have b1 : (c.vel == 0) = false := by simpa using vz
      by_cases dz : c.door ≠ 0
      · rw [if_pos dz] at ho
        subst ho
        have b0 : (c.door != 0) = true := by simpa using dz
        clear vz dz
        go_enter Try.func54, Try.ntmps54
        go_wp2
        go_ret
        exact ⟨rfl, by repeat (first | exact Below.refl _ _ | (refine Below.alloc ?_ ?_ _) | (simp; omega) | simp)⟩
      · rw [if_neg dz, if_pos (Or.inr hop)] at ho
        subst ho
        have b0 : (c.door != 0) = false := by simpa using dz
        clear vz dz
        cases hb : x.brk
        all_goals
          go_enter Try.func54, Try.ntmps54
          go_wp2
          go_ret
          exact ⟨rfl, by repeat (first | exact Below.refl _ _ | (refine Below.alloc ?_ ?_ _) | (simp; omega) | simp)⟩
  · rw [if_neg (by simp [hop])] at ho
    by_cases dz : c.door ≠ 0
    · rw [if_pos dz] at ho
      subst ho
      have b0 : (c.door != 0) = true := by simpa using dz
      clear dz
      go_enter Try.func54, Try.ntmps54
      go_wp2
      go_ret
      exact ⟨rfl, by repeat (first | exact Below.refl _ _ | (refine Below.alloc ?_ ?_ _) | (simp; omega) | simp)⟩
    · rw [if_neg dz] at ho
      have b0 : (c.door != 0) = false := by simpa using dz
      clear dz
      rcases Bool.eq_false_or_eq_true x.brk with hb | hb
      · rw [if_pos (Or.inl hb)] at ho
        subst ho
        go_enter Try.func54, Try.ntmps54
        go_wp2
        go_ret
        exact ⟨rfl, by repeat (first | exact Below.refl _ _ | (refine Below.alloc ?_ ?_ _) | (simp; omega) | simp)⟩
      · rw [if_neg (by simp [hop, hb])] at ho
        subst ho
        go_enter Try.func54, Try.ntmps54
        go_wp2
        go_ret
        exact ⟨rfl, by repeat (first | exact Below.refl _ _ | (refine Below.alloc ?_ ?_ _) | (simp; omega) | simp)⟩

theorem as_dd (v : Value) (w : World) : (Instr.typeAssert (.iface 81 v) 75 81 true).run Try.prog w = .ok (.tuple #[v, .bool true]) w := by kernel_rfl
theorem as_bd (v : Value) (w : World) : (Instr.typeAssert (.iface 83 v) 75 81 true).run Try.prog w = .ok (.tuple #[.agg #[.int .i64 0], .bool false]) w := by kernel_rfl
theorem as_pd (v : Value) (w : World) : (Instr.typeAssert (.iface 88 v) 75 81 true).run Try.prog w = .ok (.tuple #[.agg #[.int .i64 0], .bool false]) w := by kernel_rfl
theorem as_bb (v : Value) (w : World) : (Instr.typeAssert (.iface 83 v) 75 83 true).run Try.prog w = .ok (.tuple #[v, .bool true]) w := by kernel_rfl
theorem as_pb (v : Value) (w : World) : (Instr.typeAssert (.iface 88 v) 75 83 true).run Try.prog w = .ok (.tuple #[.agg #[], .bool false]) w := by kernel_rfl
theorem as_pp (v : Value) (w : World) : (Instr.typeAssert (.iface 88 v) 75 88 true).run Try.prog w = .ok (.tuple #[v, .bool true]) w := by kernel_rfl

set_option maxHeartbeats 2000000 in
theorem carAfter_door (h : Hs) (c : Cs) (st : Int) (d1 : -100 ≤ c.door) (d2 : c.door ≤ 100) (s1 : -1 ≤ st) (s2 : st ≤ 1) (w : World) :
    Calls Try.prog 53 #[.agg #[.int .i64 h.fl, .int .i64 h.gp, .int .i64 h.ln, .int .i64 h.rf, .int .i64 h.sp, .int .i64 h.pu, .int .i64 h.br, .int .i64 h.dr, .int .i64 h.lv, .int .i64 h.dO, .int .i64 h.ld, .int .i64 h.qu], .agg #[.int .i64 c.pos, .int .i64 c.vel, .int .i64 c.door], .iface 81 (.agg #[.int .i64 st])] w fun e w' => e = .returned (.agg #[.int .i64 c.pos, .int .i64 c.vel, .int .i64 (min (c.door + st) h.dO)]) ∧ Below w.heap.size w w' := by
  have a1 := as_dd; have a2 := as_bd; have a3 := as_pd; have a4 := as_bb; have a5 := as_pb; have a6 := as_pp
  by_cases k : c.door + st ≤ h.dO
  · have e : min (c.door + st) h.dO = c.door + st := by omega
    rw [e]
    clear e
    go_enter Try.func53, Try.ntmps53
    go_wp2
    exact bodyPost_ret (v := .agg #[.int .i64 c.pos, .int .i64 c.vel, .int .i64 (c.door + st)]) (by simp [results, Try.results53, go_sem]) rfl ⟨rfl, by repeat (first | exact Below.refl _ _ | apply Below.drew | (refine Below.alloc ?_ ?_ _) | (refine Below.setCell ?_ ?_ _) | (simp; omega) | simp)⟩
  · have e : min (c.door + st) h.dO = h.dO := by omega
    rw [e]
    clear e
    go_enter Try.func53, Try.ntmps53
    go_wp2
    exact bodyPost_ret (v := .agg #[.int .i64 c.pos, .int .i64 c.vel, .int .i64 h.dO]) (by simp [results, Try.results53, go_sem]) rfl ⟨rfl, by repeat (first | exact Below.refl _ _ | apply Below.drew | (refine Below.alloc ?_ ?_ _) | (refine Below.setCell ?_ ?_ _) | (simp; omega) | simp)⟩
set_option maxHeartbeats 2000000 in
theorem carAfter_brake (h : Hs) (c : Cs) (p1 : -100000000 ≤ c.pos) (p2 : c.pos ≤ 100000000) (v1 : -500 ≤ c.vel) (v2 : c.vel ≤ 500) (b1 : 1 ≤ h.br) (b2 : h.br ≤ 500) (w : World) :
    Calls Try.prog 53 #[.agg #[.int .i64 h.fl, .int .i64 h.gp, .int .i64 h.ln, .int .i64 h.rf, .int .i64 h.sp, .int .i64 h.pu, .int .i64 h.br, .int .i64 h.dr, .int .i64 h.lv, .int .i64 h.dO, .int .i64 h.ld, .int .i64 h.qu], .agg #[.int .i64 c.pos, .int .i64 c.vel, .int .i64 c.door], .iface 83 (.agg #[])] w fun e w' => e = .returned (.agg #[.int .i64 (c.pos + brk c.vel h.br), .int .i64 (brk c.vel h.br), .int .i64 c.door]) ∧ Below w.heap.size w w' := by
  have a1 := as_dd; have a2 := as_bd; have a3 := as_pd; have a4 := as_bb; have a5 := as_pb; have a6 := as_pp
  go_enter Try.func53, Try.ntmps53
  go_wp2_with (go_at_call 65; refine (implBrakeOn_in _ _ _ (by omega) (by omega) (by omega) (by omega) (by omega) (by omega) _).mono ?_; rintro e w' ⟨rfl, rfl⟩)
  go_region
  all_goals
    go_wp2
    exact bodyPost_ret (v := .agg #[.int .i64 (c.pos + brk c.vel h.br), .int .i64 (brk c.vel h.br), .int .i64 c.door]) (by simp [results, Try.results53, go_sem]) rfl ⟨rfl, by repeat (first | exact Below.refl _ _ | apply Below.drew | (refine Below.alloc ?_ ?_ _) | (refine Below.setCell ?_ ?_ _) | (simp; omega) | simp)⟩
set_option maxHeartbeats 2000000 in
theorem carAfter_push (h : Hs) (c : Cs) (g : Int) (p1 : -100000000 ≤ c.pos) (p2 : c.pos ≤ 100000000) (v1 : -500 ≤ c.vel) (v2 : c.vel ≤ 500) (s1 : 1 ≤ h.sp) (s2 : h.sp ≤ 500) (g1 : -1000 ≤ g) (g2 : g ≤ 1000) (w : World) :
    Calls Try.prog 53 #[.agg #[.int .i64 h.fl, .int .i64 h.gp, .int .i64 h.ln, .int .i64 h.rf, .int .i64 h.sp, .int .i64 h.pu, .int .i64 h.br, .int .i64 h.dr, .int .i64 h.lv, .int .i64 h.dO, .int .i64 h.ld, .int .i64 h.qu], .agg #[.int .i64 c.pos, .int .i64 c.vel, .int .i64 c.door], .iface 88 (.agg #[.int .i64 g])] w fun e w' => e = .returned (.agg #[.int .i64 (c.pos + cl (c.vel + g) (-h.sp) h.sp), .int .i64 (cl (c.vel + g) (-h.sp) h.sp), .int .i64 c.door]) ∧ Below w.heap.size w w' := by
  obtain ⟨m, hm⟩ : ∃ m, cl (c.vel + g) (-h.sp) h.sp = m := ⟨_, rfl⟩
  have m1 : -500 ≤ m ∧ m ≤ 500 := by unfold cl at hm; omega
  rw [hm]
  have a1 := as_dd; have a2 := as_bd; have a3 := as_pd; have a4 := as_bb; have a5 := as_pb; have a6 := as_pp
  go_enter Try.func53, Try.ntmps53
  go_wp2_with (go_at_call 66; refine (bounded_any _ _ _ _).mono ?_; rintro e w' ⟨rfl, hw⟩; obtain rfl := hw.symm; clear hw)
  exact bodyPost_ret (v := .agg #[.int .i64 (c.pos + m), .int .i64 m, .int .i64 c.door]) (by simp [results, Try.results53, go_sem]) rfl ⟨rfl, by repeat (first | exact Below.refl _ _ | apply Below.drew | (refine Below.alloc ?_ ?_ _) | (refine Below.setCell ?_ ?_ _) | (simp; omega) | simp)⟩
end Go.Proofs.Ytgdhbkgpjeedhaa
