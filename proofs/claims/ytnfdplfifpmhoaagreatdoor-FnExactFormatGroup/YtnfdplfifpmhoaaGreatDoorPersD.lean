/-
  The law's people and ledgers: compared, marked, held.
-/
import Derived.Test.YtnfdplfifpmhoaaGreatDoorPersC
import Derived.Deep.RegionHeld3
namespace Go.Proofs.YtnfdplfifpmhoaaGreatDoor
open Go.RowKit Pl
set_option linter.unusedSimpArgs false
set_option linter.unusedVariables false

set_option maxRecDepth 20000 in
set_option maxHeartbeats 8000000 in
theorem eqPerson_same (p : Pe) (w : World) :
    Calls Tryz.prog 70 #[.agg #[.int .i64 p.id, .int .i64 p.fr, .int .i64 p.tw, .int .i64 p.sh, .int .i64 p.ca, .int .i64 p.st, .int .i64 p.pl], .agg #[.int .i64 p.id, .int .i64 p.fr, .int .i64 p.tw, .int .i64 p.sh, .int .i64 p.ca, .int .i64 p.st, .int .i64 p.pl]] w fun e w' => e = .returned (.bool true) ∧ Below w.heap.size w w' := by
  go_enter Tryz.func70, Tryz.ntmps70
  go_wp2
  go_ret
  exact ⟨rfl, by repeat (first | exact Below.refl _ _ | (refine Below.alloc ?_ ?_ _) | (refine Below.setCell ?_ ?_ _) | (simp; omega) | simp)⟩
set_option maxRecDepth 20000 in
set_option maxHeartbeats 16000000 in
theorem eqPersonS_same (a a' : Option Addr) (cap cap' : Nat) (l : List Pe) (hl : l.length ≤ 1048576) (w : World) (h0 : PIn w w.heap.size a l) (h1 : PIn w w.heap.size a' l) :
    Calls Tryz.prog 44 #[.slice a l.length cap, .slice a' l.length cap'] w fun e w' => e = .returned (.bool true) ∧ Below w.heap.size w w' := by
  have H0 : Hid (PIn w w.heap.size a l) := h0
  have H1 : Hid (PIn w w.heap.size a' l) := h1
  clear h0 h1
  go_enter Tryz.func44, Tryz.ntmps44
  go_wp2_with fail
  go_loopw [5] (fun ii wr => ∃ i : Nat, ii = .int .i64 i ∧ i ≤ l.length ∧ Below w.heap.size w wr) (fun ii _ => l.length - (intOf ii).toNat)
  case atStart => exact ⟨0, rfl, by omega, Below.refl _ _⟩
  case round =>
    obtain ⟨i, rfl, hi, hb⟩ := hrel
    have FB : Hid (Below w.heap.size w wr) := hb
    by_cases hlt : i < l.length
    · obtain ⟨p, hp⟩ : ∃ p, l[i]? = some p := ⟨_, List.getElem?_eq_getElem hlt⟩
      rcases H0.out with h0 | ⟨b, o, rfl, hbl, h7⟩
      · rw [h0] at hlt; simp at hlt
      rcases H1.out with h0 | ⟨b', o', rfl, hbl', h7'⟩
      · rw [h0] at hlt; simp at hlt
      have F0 : Hid (P7 wr b (o + i * 7) p) := (h7 i p hp).below hb hbl
      have F1 : Hid (P7 wr b' (o' + i * 7) p) := (h7' i p hp).below hb hbl'
      clear hp h7 h7' hb
      go_wp2_with fail
      have F0 : Hid (P7 wr.drew b (o + i * 7) p) := F0.out.below (Below.refl _ _).drew F0.out.lt
      have F1 : Hid (P7 wr.drew b' (o' + i * 7) p) := F1.out.below (Below.refl _ _).drew F1.out.lt
      have FB : Hid (Below w.heap.size w wr.drew) := FB.out.drew
      have m0 := F0.out.c0
      have m1 := F0.out.c1
      have m2 := F0.out.c2
      have m3 := F0.out.c3
      have m4 := F0.out.c4
      have m5 := F0.out.c5
      have m6 := F0.out.c6
      have n0 := F1.out.c0
      have n1 := F1.out.c1
      have n2 := F1.out.c2
      have n3 := F1.out.c3
      have n4 := F1.out.c4
      have n5 := F1.out.c5
      have n6 := F1.out.c6
      refine wp_region_held_drew (S := (fun w'' => w''.cell? ⟨b, o + i * 7, none⟩ = some (.int .i64 p.id) ∧ w''.cell? ⟨b, o + i * 7 + 1, none⟩ = some (.int .i64 p.fr) ∧ w''.cell? ⟨b, o + i * 7 + 2, none⟩ = some (.int .i64 p.tw) ∧ w''.cell? ⟨b, o + i * 7 + 3, none⟩ = some (.int .i64 p.sh) ∧ w''.cell? ⟨b, o + i * 7 + 4, none⟩ = some (.int .i64 p.ca) ∧ w''.cell? ⟨b, o + i * 7 + 5, none⟩ = some (.int .i64 p.st) ∧ w''.cell? ⟨b, o + i * 7 + 6, none⟩ = some (.int .i64 p.pl) ∧ w''.cell? ⟨b', o' + i * 7, none⟩ = some (.int .i64 p.id) ∧ w''.cell? ⟨b', o' + i * 7 + 1, none⟩ = some (.int .i64 p.fr) ∧ w''.cell? ⟨b', o' + i * 7 + 2, none⟩ = some (.int .i64 p.tw) ∧ w''.cell? ⟨b', o' + i * 7 + 3, none⟩ = some (.int .i64 p.sh) ∧ w''.cell? ⟨b', o' + i * 7 + 4, none⟩ = some (.int .i64 p.ca) ∧ w''.cell? ⟨b', o' + i * 7 + 5, none⟩ = some (.int .i64 p.st) ∧ w''.cell? ⟨b', o' + i * 7 + 6, none⟩ = some (.int .i64 p.pl))) (by kernel_rfl) (by (try dsimp only); first | exact ⟨m0, m1, m2, m3, m4, m5, m6, n0, n1, n2, n3, n4, n5, n6⟩ | go_keep) (fun hHeld => ?_)
      obtain ⟨v_1, hw1⟩ : ∃ v_1, v_1 = wr.drew := ⟨_, rfl⟩
      have F0 : Hid (P7 v_1 b (o + i * 7) p) := by rw [hw1]; exact F0.out
      have F1 : Hid (P7 v_1 b' (o' + i * 7) p) := by rw [hw1]; exact F1.out
      have FB : Hid (Below w.heap.size w v_1) := by rw [hw1]; exact FB.out
      rw [← hw1] at hHeld ⊢
      clear hw1
      have m0 := F0.out.c0
      have m1 := F0.out.c1
      have m2 := F0.out.c2
      have m3 := F0.out.c3
      have m4 := F0.out.c4
      have m5 := F0.out.c5
      have m6 := F0.out.c6
      have n0 := F1.out.c0
      have n1 := F1.out.c1
      have n2 := F1.out.c2
      have n3 := F1.out.c3
      have n4 := F1.out.c4
      have n5 := F1.out.c5
      have n6 := F1.out.c6
      refine tkz 0 rfl ?_
      refine tkz 1 rfl ?_
      refine tkz 2 rfl ?_
      refine tkz 3 rfl ?_
      refine tkz 4 rfl ?_
      refine tkz 5 rfl ?_
      refine tkz 6 rfl ?_
      refine tkz 7 rfl ?_
      refine wpAnyH_ready (rs := [8]) (by kernel_rfl) (by simp) ?_
      refine (AllReadyH.cons rfl (fun K hK => ?_) AllReadyH.nil)
      go_simp
      refine (eqPerson_same p _).mono ?_
      rintro e v_2 ⟨rfl, hb⟩
      have F0 : Hid (P7 v_2 b (o + i * 7) p) := F0.out.below hb F0.out.lt
      have F1 : Hid (P7 v_2 b' (o' + i * 7) p) := F1.out.below hb F1.out.lt
      have FB : Hid (Below w.heap.size w v_2) := FB.out.trans (hb.mono FB.out.size)
      clear hb
      have m0 := F0.out.c0
      have m1 := F0.out.c1
      have m2 := F0.out.c2
      have m3 := F0.out.c3
      have m4 := F0.out.c4
      have m5 := F0.out.c5
      have m6 := F0.out.c6
      have n0 := F1.out.c0
      have n1 := F1.out.c1
      have n2 := F1.out.c2
      have n3 := F1.out.c3
      have n4 := F1.out.c4
      have n5 := F1.out.c5
      have n6 := F1.out.c6
      try dsimp only
      refine hK.out _ _ (by (try dsimp only); first | exact ⟨m0, m1, m2, m3, m4, m5, m6, n0, n1, n2, n3, n4, n5, n6⟩ | go_keep) (fun hHeld => ?_)
      clear hK K
      try simp only [Act.put, List.getElem_toArray, List.getElem_cons_succ, List.getElem_cons_zero, List.setIfInBounds_toArray, List.set_cons_zero, List.set_cons_succ]
      refine tkz 9 rfl ?_
      refine wpAnyH_done (by kernel_rfl) ?_ _
      go_wp2_with fail
      go_roundw
      case rel => exact ⟨i + 1, by simp, by omega, FB.out⟩
      case measure => simp [intOf]; omega
    · have ei : i = l.length := by omega
      subst ei
      clear hb
      go_wp2_with fail
      go_ret
      exact ⟨rfl, FB.out⟩
set_option maxRecDepth 20000 in
set_option maxHeartbeats 16000000 in
theorem eqLedger_same (nx : Int) (a a' : Option Addr) (cap cap' : Nat) (l : List Pe) (hl : l.length ≤ 1048576) (w : World) (h0 : PIn w w.heap.size a l) (h1 : PIn w w.heap.size a' l) :
    Calls Tryz.prog 26 #[.agg #[.int .i64 nx, .slice a l.length cap], .agg #[.int .i64 nx, .slice a' l.length cap']] w fun e w' => e = .returned (.bool true) ∧ Below w.heap.size w w' := by
  have FB : Hid (Below w.heap.size w ((w.alloc (.cells #[.int .i64 nx, .slice a l.length cap] 36)).alloc (.cells #[.int .i64 nx, .slice a' l.length cap'] 36))) := ((Below.refl _ _).alloc (Nat.le_refl _) _).alloc (by simp) _
  have H0 : Hid (PIn w w.heap.size a l) := h0
  have H1 : Hid (PIn w w.heap.size a' l) := h1
  clear h0 h1
  go_enter Tryz.func26, Tryz.ntmps26
  go_wp2_with (go_at_call 44; refine (eqPersonS_same a a' cap cap' l hl _ ((H0.out.below FB.out (Nat.le_refl _)).mono FB.out.size) ((H1.out.below FB.out (Nat.le_refl _)).mono FB.out.size)).mono ?_; rintro e w1 ⟨rfl, hb⟩; have FB : Hid (Below w.heap.size w w1) := FB.out.trans (hb.mono FB.out.size); clear hb)
  go_ret
  exact ⟨rfl, FB.out⟩
/-- Marks: one number behind the other. -/
def mark1 (k : Int) (i : Nat) : Pe := ⟨(k + 7 * (i : Int)), (k + 7 * (i : Int)) + 1, (k + 7 * (i : Int)) + 2, (k + 7 * (i : Int)) + 3, (k + 7 * (i : Int)) + 4, (k + 7 * (i : Int)) + 5, (k + 7 * (i : Int)) + 6⟩
def markL (k : Int) (n : Nat) : List Pe := (List.range n).map (mark1 k)
theorem markL_len (k : Int) (n : Nat) : (markL k n).length = n := by simp [markL]
theorem markL_get {k : Int} {n i : Nat} (h : i < n) : (markL k n)[i]? = some (mark1 k i) := by simp [markL, h]
theorem mark_step {k : Int} {l : List Pe} {i : Nat} (h : i < l.length) : (markL k i ++ l.drop i).set i (mark1 k i) = markL k (i + 1) ++ l.drop (i + 1) := by
  rw [List.set_append_right _ _ (by rw [markL_len]; omega), markL_len, Nat.sub_self, List.drop_eq_getElem_cons h, List.set_cons_zero]
  unfold markL
  rw [List.range_succ, List.map_append]
  simp
theorem mark_at {k : Int} {l : List Pe} {i : Nat} {p : Pe} (h : l[i]? = some p) : (markL k i ++ l.drop i)[i]? = some p := by
  rw [List.getElem?_append_right (by rw [markL_len]; omega), markL_len, Nat.sub_self, List.getElem?_drop, Nat.add_zero]
  exact h
theorem grown_putP (W : World) (g o : Nat) (p : Pe) : W.grownBy (putP W g o p) (some g) := by
  have s : ∀ (W : World) (q : Nat) (u : Value), W.grownBy (W.setCell ⟨g, q, none⟩ u) (some g) := fun W q u => ⟨rfl, rfl, rfl, by simp [World.setCell], fun i _ hne => Below.heap_setCell _ _ _ _ (fun e => hne (by rw [e]))⟩
  have t : ∀ {a b c : World}, a.grownBy b (some g) → b.grownBy c (some g) → a.grownBy c (some g) := fun h k => ⟨k.os.trans h.os, k.tape.trans h.tape, k.output.trans h.output, Nat.le_trans h.size k.size, fun i hi hne => (k.block i (Nat.lt_of_lt_of_le hi h.size) hne).trans (h.block i hi hne)⟩
  exact t (t (t (t (t (t (s _ _ _) (s _ _ _)) (s _ _ _)) (s _ _ _)) (s _ _ _)) (s _ _ _)) (s _ _ _)
theorem grown_trans {a b c : World} {row : Option Nat} (h : a.grownBy b row) (k : b.grownBy c row) : a.grownBy c row := ⟨k.os.trans h.os, k.tape.trans h.tape, k.output.trans h.output, Nat.le_trans h.size k.size, fun i hi hne => (k.block i (Nat.lt_of_lt_of_le hi h.size) hne).trans (h.block i hi hne)⟩
/-- Of what was there nothing has turned but the row of v. -/
structure Turn (w w' : World) (v : Value) : Prop where
  g : w.grownBy w' v.ownBlock
theorem Turn.trans {a b c : World} {v : Value} (h : Turn a b v) (k : Turn b c v) : Turn a c v := ⟨grown_trans h.g k.g⟩
theorem Turn.refl (w : World) (v : Value) : Turn w w v := ⟨World.grownBy.refl w _⟩
theorem Turn.below {B : Nat} {a w w' : World} {v : Value} (h : Below B a w) (k : Turn w w' v) (hv : ∀ j, v.ownBlock = some j → B ≤ j) (hB : B ≤ w.heap.size) : Below B a w' := h.grown k.g hB hv
end Go.Proofs.YtnfdplfifpmhoaaGreatDoor
