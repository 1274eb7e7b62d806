/-
  The law's events: compared, marked, held.
-/
import Derived.Test.YtonmocgoelkofaaGreatDoorEvB
import Derived.Test.YtonmocgoelkofaaGreatDoorPersD
import Derived.Test.YtonmocgoelkofaaGreatDoorFnd
namespace Go.Proofs.YtonmocgoelkofaaGreatDoor
open Go.RowKit Pl
set_option linter.unusedSimpArgs false
set_option linter.unusedVariables false

theorem get_setE {l : List Ev} {i : Nat} {p q : Ev} (h : l[i]? = some p) : (l.set i q)[i]? = some q := by
  have hi : i < l.length := (List.getElem?_eq_some_iff.1 h).1
  rw [List.getElem?_set_self hi]
/-- One of them is written whole. -/
def putE (W : World) (g o : Nat) (p : Ev) : World := (((((W.setCell ⟨g, o, none⟩ (.int .i64 p.tk)).setCell ⟨g, o + 1, none⟩ (.int .i64 p.kd)).setCell ⟨g, o + 2, none⟩ (.int .i64 p.id)).setCell ⟨g, o + 3, none⟩ (.int .i64 p.fl)).setCell ⟨g, o + 4, none⟩ (.int .i64 p.tw))
theorem OwE.put {w : World} {B g n cap : Nat} {l : List Ev} (h : OwE w B g n cap l) {i : Nat} {p : Ev} (q : Ev) (hp : l[i]? = some p) : OwE (putE w g (i * 5) q) B g n cap (l.set i q) := by
  have s0 := h.set (k := 0) (u := .int .i64 q.tk) (q := ⟨q.tk, p.kd, p.id, p.fl, p.tw⟩) hp (by omega) rfl
  have s1 := s0.set (k := 1) (u := .int .i64 q.kd) (q := ⟨q.tk, q.kd, p.id, p.fl, p.tw⟩) (get_setE hp) (by omega) rfl
  have s2 := s1.set (k := 2) (u := .int .i64 q.id) (q := ⟨q.tk, q.kd, q.id, p.fl, p.tw⟩) (get_setE (get_setE hp)) (by omega) rfl
  have s3 := s2.set (k := 3) (u := .int .i64 q.fl) (q := ⟨q.tk, q.kd, q.id, q.fl, p.tw⟩) (get_setE (get_setE (get_setE hp))) (by omega) rfl
  have s4 := s3.set (k := 4) (u := .int .i64 q.tw) (q := q) (get_setE (get_setE (get_setE (get_setE hp)))) (by omega) rfl
  simp only [List.set_set] at s4
  exact s4
theorem grown_putE (W : World) (g o : Nat) (p : Ev) : W.grownBy (putE W g o p) (some g) := by
  have s : ∀ (W : World) (q : Nat) (u : Value), W.grownBy (W.setCell ⟨g, q, none⟩ u) (some g) := fun W q u => ⟨rfl, rfl, rfl, by simp [World.setCell], fun i _ hne => Below.heap_setCell _ _ _ _ (fun e => hne (by rw [e]))⟩
  exact grown_trans (grown_trans (grown_trans (grown_trans (s _ _ _) (s _ _ _)) (s _ _ _)) (s _ _ _)) (s _ _ _)
set_option maxRecDepth 20000 in
set_option maxHeartbeats 8000000 in
theorem eqEvent_same (p : Ev) (w : World) :
    Calls Tryz.prog 39 #[.agg #[.int .i64 p.tk, .int .i64 p.kd, .int .i64 p.id, .int .i64 p.fl, .int .i64 p.tw], .agg #[.int .i64 p.tk, .int .i64 p.kd, .int .i64 p.id, .int .i64 p.fl, .int .i64 p.tw]] w fun e w' => e = .returned (.bool true) ∧ Below w.heap.size w w' := by
  go_enter Tryz.func39, Tryz.ntmps39
  go_wp2
  go_ret
  exact ⟨rfl, by repeat (first | exact Below.refl _ _ | (refine Below.alloc ?_ ?_ _) | (refine Below.setCell ?_ ?_ _) | (simp; omega) | simp)⟩
set_option maxRecDepth 20000 in
set_option maxHeartbeats 16000000 in
theorem eqEventS_same (a a' : Option Addr) (cap cap' : Nat) (l : List Ev) (hl : l.length ≤ 1048576) (w : World) (h0 : EIn w w.heap.size a l) (h1 : EIn w w.heap.size a' l) :
    Calls Tryz.prog 20 #[.slice a l.length cap, .slice a' l.length cap'] w fun e w' => e = .returned (.bool true) ∧ Below w.heap.size w w' := by
  have H0 : Hid (EIn w w.heap.size a l) := h0
  have H1 : Hid (EIn w w.heap.size a' l) := h1
  clear h0 h1
  go_enter Tryz.func20, Tryz.ntmps20
  go_wp2_with fail
  go_loopw [5] (fun ii wr => ∃ i : Nat, ii = .int .i64 i ∧ i ≤ l.length ∧ Below w.heap.size w wr) (fun ii _ => l.length - (intOf ii).toNat)
  case atStart => exact ⟨0, rfl, by omega, Below.refl _ _⟩
  case round =>
    obtain ⟨i, rfl, hi, hb⟩ := hrel
    have FB : Hid (Below w.heap.size w wr) := hb
    by_cases hlt : i < l.length
    · obtain ⟨p, hp⟩ : ∃ p, l[i]? = some p := ⟨_, List.getElem?_eq_getElem hlt⟩
      rcases H0.out with h0 | ⟨b, o, rfl, hbl, h7⟩
      · rw [h0] at hlt; simp at hlt
      rcases H1.out with h0 | ⟨b', o', rfl, hbl', h7'⟩
      · rw [h0] at hlt; simp at hlt
      have F0 : Hid (E5 wr b (o + i * 5) p) := (h7 i p hp).below hb hbl
      have F1 : Hid (E5 wr b' (o' + i * 5) p) := (h7' i p hp).below hb hbl'
      clear hp h7 h7' hb
      go_wp2_with fail
      have F0 : Hid (E5 wr.drew b (o + i * 5) p) := F0.out.below (Below.refl _ _).drew F0.out.lt
      have F1 : Hid (E5 wr.drew b' (o' + i * 5) p) := F1.out.below (Below.refl _ _).drew F1.out.lt
      have FB : Hid (Below w.heap.size w wr.drew) := FB.out.drew
      have m0 := F0.out.c0
      have m1 := F0.out.c1
      have m2 := F0.out.c2
      have m3 := F0.out.c3
      have m4 := F0.out.c4
      have n0 := F1.out.c0
      have n1 := F1.out.c1
      have n2 := F1.out.c2
      have n3 := F1.out.c3
      have n4 := F1.out.c4
      refine wp_region_held_drew (S := (fun w'' => w''.cell? ⟨b, o + i * 5, none⟩ = some (.int .i64 p.tk) ∧ w''.cell? ⟨b, o + i * 5 + 1, none⟩ = some (.int .i64 p.kd) ∧ w''.cell? ⟨b, o + i * 5 + 2, none⟩ = some (.int .i64 p.id) ∧ w''.cell? ⟨b, o + i * 5 + 3, none⟩ = some (.int .i64 p.fl) ∧ w''.cell? ⟨b, o + i * 5 + 4, none⟩ = some (.int .i64 p.tw) ∧ w''.cell? ⟨b', o' + i * 5, none⟩ = some (.int .i64 p.tk) ∧ w''.cell? ⟨b', o' + i * 5 + 1, none⟩ = some (.int .i64 p.kd) ∧ w''.cell? ⟨b', o' + i * 5 + 2, none⟩ = some (.int .i64 p.id) ∧ w''.cell? ⟨b', o' + i * 5 + 3, none⟩ = some (.int .i64 p.fl) ∧ w''.cell? ⟨b', o' + i * 5 + 4, none⟩ = some (.int .i64 p.tw))) (by kernel_rfl) (by (try dsimp only); first | exact ⟨m0, m1, m2, m3, m4, n0, n1, n2, n3, n4⟩ | go_keep) (fun hHeld => ?_)
      obtain ⟨v_1, hw1⟩ : ∃ v_1, v_1 = wr.drew := ⟨_, rfl⟩
      have F0 : Hid (E5 v_1 b (o + i * 5) p) := by rw [hw1]; exact F0.out
      have F1 : Hid (E5 v_1 b' (o' + i * 5) p) := by rw [hw1]; exact F1.out
      have FB : Hid (Below w.heap.size w v_1) := by rw [hw1]; exact FB.out
      rw [← hw1] at hHeld ⊢
      clear hw1
      have m0 := F0.out.c0
      have m1 := F0.out.c1
      have m2 := F0.out.c2
      have m3 := F0.out.c3
      have m4 := F0.out.c4
      have n0 := F1.out.c0
      have n1 := F1.out.c1
      have n2 := F1.out.c2
      have n3 := F1.out.c3
      have n4 := F1.out.c4
      refine tkz 0 rfl ?_
      refine tkz 1 rfl ?_
      refine tkz 2 rfl ?_
      refine tkz 3 rfl ?_
      refine tkz 4 rfl ?_
      refine tkz 5 rfl ?_
      refine tkz 6 rfl ?_
      refine tkz 7 rfl ?_
      refine wpAnyH_ready (rs := [8]) (by kernel_rfl) (by simp) ?_
      refine (AllReadyH.cons rfl (fun K hK => ?_) AllReadyH.nil)
      go_simp
      refine (eqEvent_same p _).mono ?_
      rintro e v_2 ⟨rfl, hb⟩
      have F0 : Hid (E5 v_2 b (o + i * 5) p) := F0.out.below hb F0.out.lt
      have F1 : Hid (E5 v_2 b' (o' + i * 5) p) := F1.out.below hb F1.out.lt
      have FB : Hid (Below w.heap.size w v_2) := FB.out.trans (hb.mono FB.out.size)
      clear hb
      have m0 := F0.out.c0
      have m1 := F0.out.c1
      have m2 := F0.out.c2
      have m3 := F0.out.c3
      have m4 := F0.out.c4
      have n0 := F1.out.c0
      have n1 := F1.out.c1
      have n2 := F1.out.c2
      have n3 := F1.out.c3
      have n4 := F1.out.c4
      try dsimp only
      refine hK.out _ _ (by (try dsimp only); first | exact ⟨m0, m1, m2, m3, m4, n0, n1, n2, n3, n4⟩ | go_keep) (fun hHeld => ?_)
      clear hK K
      try simp only [Act.put, List.getElem_toArray, List.getElem_cons_succ, List.getElem_cons_zero, List.setIfInBounds_toArray, List.set_cons_zero, List.set_cons_succ]
      refine tkz 9 rfl ?_
      refine wpAnyH_done (by kernel_rfl) ?_ _
      go_wp2_with fail
      go_roundw
      case rel => exact ⟨i + 1, by simp, by omega, FB.out⟩
      case measure => simp [intOf]; omega
    · have ei : i = l.length := by omega
      subst ei
      clear hb
      go_wp2_with fail
      go_ret
      exact ⟨rfl, FB.out⟩
/-- Marks: one number behind the other. -/
def markE1 (k : Int) (i : Nat) : Ev := ⟨(k + 5 * (i : Int)), (k + 5 * (i : Int)) + 1, (k + 5 * (i : Int)) + 2, (k + 5 * (i : Int)) + 3, (k + 5 * (i : Int)) + 4⟩
def markEL (k : Int) (n : Nat) : List Ev := (List.range n).map (markE1 k)
theorem markEL_len (k : Int) (n : Nat) : (markEL k n).length = n := by simp [markEL]
theorem markEL_get {k : Int} {n i : Nat} (h : i < n) : (markEL k n)[i]? = some (markE1 k i) := by simp [markEL, h]
theorem markE_step {k : Int} {l : List Ev} {i : Nat} (h : i < l.length) : (markEL k i ++ l.drop i).set i (markE1 k i) = markEL k (i + 1) ++ l.drop (i + 1) := by
  rw [List.set_append_right _ _ (by rw [markEL_len]; omega), markEL_len, Nat.sub_self, List.drop_eq_getElem_cons h, List.set_cons_zero]
  unfold markEL
  rw [List.range_succ, List.map_append]
  simp
theorem markE_at {k : Int} {l : List Ev} {i : Nat} {p : Ev} (h : l[i]? = some p) : (markEL k i ++ l.drop i)[i]? = some p := by
  rw [List.getElem?_append_right (by rw [markEL_len]; omega), markEL_len, Nat.sub_self, List.getElem?_drop, Nat.add_zero]
  exact h
set_option maxRecDepth 20000 in
set_option maxHeartbeats 16000000 in
theorem markEventS_ow (B g n cap : Nat) (l : List Ev) (k : Int) (k1 : 0 ≤ k) (k2 : k ≤ 100000000) (hl : n ≤ 1048576) (w : World) (h : OwE w B g n cap l) :
    Calls Tryz.prog 21 #[.slice (some ⟨g, 0, none⟩) n cap, .int .i64 k] w fun e w' => e = .returned (.int .i64 (k + 5 * n)) ∧ OwE w' B g n cap (markEL k n) ∧ w.grownBy w' (some g) := by
  have hn := h.1
  have HO : Hid (OwE w B g n cap l) := h
  clear h
  go_enter Tryz.func21, Tryz.ntmps21
  go_wp2_with fail
  go_loopw [1, 5] (fun kk ii wr => ∃ i : Nat, ii = .int .i64 i ∧ i ≤ n ∧ kk = .int .i64 (k + 5 * (i : Int)) ∧ OwE wr B g n cap (markEL k i ++ l.drop i) ∧ w.grownBy wr (some g)) (fun _ ii _ => n - (intOf ii).toNat)
  case atStart => exact ⟨0, rfl, by omega, by simp, by simpa [markEL] using HO.out, World.grownBy.refl w _⟩
  case round =>
    obtain ⟨i, rfl, hi, rfl, ho, hg⟩ := hrel
    have FO : Hid (OwE wr B g n cap (markEL k i ++ l.drop i)) := ho
    have FG : Hid (w.grownBy wr (some g)) := hg
    clear ho hg HO
    by_cases hlt : i < n
    · obtain ⟨p, hp⟩ : ∃ p, l[i]? = some p := ⟨_, List.getElem?_eq_getElem (by omega)⟩
      have HZ : Hid ((markEL k i ++ l.drop i)[i]? = some p) := markE_at hp
      have HE : Hid ((markEL k i ++ l.drop i).set i (markE1 k i) = markEL k (i + 1) ++ l.drop (i + 1)) := markE_step (by omega)
      obtain ⟨d0, d1, d2, d3, d4⟩ := FO.out.e5 HZ.out
      have f0 := FO.out.fz (i * 5)
      have f1 := FO.out.fz (i * 5 + 1)
      have f2 := FO.out.fz (i * 5 + 2)
      have f3 := FO.out.fz (i * 5 + 3)
      have f4 := FO.out.fz (i * 5 + 4)
      have e0 : IntKind.i64.wrap (k + 5 * (i : Int) + 1) = k + 5 * (i : Int) + 1 := (IntWalk.i64_in _ (by omega)).trans (by omega)
      have e1 : IntKind.i64.wrap (k + 5 * (i : Int) + 1 + 1) = k + 5 * (i : Int) + 2 := (IntWalk.i64_in _ (by omega)).trans (by omega)
      have e2 : IntKind.i64.wrap (k + 5 * (i : Int) + 2 + 1) = k + 5 * (i : Int) + 3 := (IntWalk.i64_in _ (by omega)).trans (by omega)
      have e3 : IntKind.i64.wrap (k + 5 * (i : Int) + 3 + 1) = k + 5 * (i : Int) + 4 := (IntWalk.i64_in _ (by omega)).trans (by omega)
      have e4 : IntKind.i64.wrap (k + 5 * (i : Int) + 4 + 1) = k + 5 * (i : Int) + 5 := (IntWalk.i64_in _ (by omega)).trans (by omega)
      clear hp
      go_wp2_with fail
      go_roundw
      case rel => exact ⟨i + 1, by simp, by omega, by congr 1; omega, HE.out ▸ FO.out.put (markE1 k i) HZ.out, grown_trans FG.out (grown_putE wr g (i * 5) (markE1 k i))⟩
      case measure => simp [intOf]; omega
    · have ei : i = n := by omega
      subst ei
      have HM : Hid (OwE wr B g i cap (markEL k i)) := by
        have q := FO.out
        rw [List.drop_eq_nil_of_le (by omega), List.append_nil] at q
        exact q
      clear FO
      go_wp2_with fail
      go_ret
      exact ⟨rfl, HM.out, FG.out⟩
theorem markEventS_any (B : Nat) (v : Value) (l : List Ev) (k : Int) (k1 : 0 ≤ k) (k2 : k ≤ 100000000) (hl : l.length ≤ 1048576) (w : World) (h : OwnE w B v l) :
    Calls Tryz.prog 21 #[v, .int .i64 k] w fun e w' => e = .returned (.int .i64 (k + 5 * l.length)) ∧ OwnE w' B v (markEL k l.length) ∧ w.grownBy w' v.ownBlock := by
  rcases h.cases with ⟨rfl, rfl⟩ | ⟨g, cap, rfl, -⟩
  · have HO : Hid (OwnE w B (.slice none 0 0) []) := h
    clear h
    go_enter Tryz.func21, Tryz.ntmps21
    go_wp2_with fail
    go_loopw [1, 5] (fun kk ii wr => ii = .int .i64 0 ∧ kk = .int .i64 k ∧ wr = w) (fun _ _ _ => 0)
    case atStart => exact ⟨rfl, rfl, rfl⟩
    case round =>
      obtain ⟨rfl, rfl, rfl⟩ := hrel
      go_wp2_with fail
      go_ret
      exact ⟨ret_int (by simp), HO.out, World.grownBy.refl _ _⟩
  · refine (markEventS_ow B g l.length cap l k k1 k2 hl w h.ow).mono ?_
    rintro e w' ⟨he, ho, hg⟩
    exact ⟨he, ho.own, hg⟩
set_option maxRecDepth 20000 in
set_option maxHeartbeats 16000000 in
theorem heldEventS_ow (B g n cap : Nat) (k : Int) (k1 : 0 ≤ k) (k2 : k ≤ 100000000) (hl : n ≤ 1048576) (w : World) (h : OwE w B g n cap (markEL k n)) :
    Calls Tryz.prog 22 #[.slice (some ⟨g, 0, none⟩) n cap, .int .i64 k] w fun e w' => e = .returned (.int .i64 (k + 5 * n)) ∧ w' = w := by
  have HO : Hid (OwE w B g n cap (markEL k n)) := h
  clear h
  go_enter Tryz.func22, Tryz.ntmps22
  go_wp2_with fail
  go_loopw [1, 5] (fun kk ii wr => ∃ i : Nat, ii = .int .i64 i ∧ i ≤ n ∧ kk = .int .i64 (k + 5 * (i : Int)) ∧ wr = w) (fun _ ii _ => n - (intOf ii).toNat)
  case atStart => exact ⟨0, rfl, by omega, by simp, rfl⟩
  case round =>
    obtain ⟨i, rfl, hi, rfl, rfl⟩ := hrel
    by_cases hlt : i < n
    · obtain ⟨d0, d1, d2, d3, d4⟩ := HO.out.e5 (markEL_get (k := k) hlt)
      unfold markE1 at d0 d1 d2 d3 d4
      dsimp only at d0 d1 d2 d3 d4
      have e0 : IntKind.i64.wrap (k + 5 * (i : Int) + 1) = k + 5 * (i : Int) + 1 := (IntWalk.i64_in _ (by omega)).trans (by omega)
      have e1 : IntKind.i64.wrap (k + 5 * (i : Int) + 1 + 1) = k + 5 * (i : Int) + 2 := (IntWalk.i64_in _ (by omega)).trans (by omega)
      have e2 : IntKind.i64.wrap (k + 5 * (i : Int) + 2 + 1) = k + 5 * (i : Int) + 3 := (IntWalk.i64_in _ (by omega)).trans (by omega)
      have e3 : IntKind.i64.wrap (k + 5 * (i : Int) + 3 + 1) = k + 5 * (i : Int) + 4 := (IntWalk.i64_in _ (by omega)).trans (by omega)
      have e4 : IntKind.i64.wrap (k + 5 * (i : Int) + 4 + 1) = k + 5 * (i : Int) + 5 := (IntWalk.i64_in _ (by omega)).trans (by omega)
      go_wp2_with fail
      go_roundw
      case rel => exact ⟨i + 1, by simp, by omega, by congr 1; omega, by first | rfl | trivial⟩
      case measure => simp [intOf]; omega
    · have ei : i = n := by omega
      subst ei
      go_wp2_with fail
      go_ret
      exact ⟨rfl, rfl⟩
theorem heldEventS_any (B : Nat) (v : Value) (n : Nat) (k : Int) (k1 : 0 ≤ k) (k2 : k ≤ 100000000) (hl : n ≤ 1048576) (w : World) (h : OwnE w B v (markEL k n)) :
    Calls Tryz.prog 22 #[v, .int .i64 k] w fun e w' => e = .returned (.int .i64 (k + 5 * n)) ∧ w' = w := by
  rcases h.cases with ⟨rfl, hz⟩ | ⟨g, cap, rfl, -⟩
  · have hn : n = 0 := by
      have := markEL_len k n
      rw [hz] at this
      simpa using this.symm
    subst hn
    clear h hz
    go_enter Tryz.func22, Tryz.ntmps22
    go_wp2_with fail
    go_loopw [1, 5] (fun kk ii wr => ii = .int .i64 0 ∧ kk = .int .i64 k ∧ wr = w) (fun _ _ _ => 0)
    case atStart => exact ⟨rfl, rfl, rfl⟩
    case round =>
      obtain ⟨rfl, rfl, rfl⟩ := hrel
      go_wp2_with fail
      go_ret
      exact ⟨ret_int (by simp), rfl⟩
  · have q := h.ow
    rw [markEL_len] at q ⊢
    exact heldEventS_ow B g n cap k k1 k2 hl w q
set_option maxRecDepth 20000 in
set_option maxHeartbeats 16000000 in
theorem eqEventsResult_same (k at_ : Int) (a a' : Option Addr) (cap cap' : Nat) (l : List Ev) (hl : l.length ≤ 1048576) (w : World) (h0 : EIn w w.heap.size a l) (h1 : EIn w w.heap.size a' l) :
    Calls Tryz.prog 7 #[.agg #[.int .i64 k, .int .i64 at_, .slice a l.length cap], .agg #[.int .i64 k, .int .i64 at_, .slice a' l.length cap']] w fun e w' => e = .returned (.bool true) ∧ Below w.heap.size w w' := by
  have FB : Hid (Below w.heap.size w ((w.alloc (.cells #[.int .i64 k, .int .i64 at_, .slice a l.length cap] 26)).alloc (.cells #[.int .i64 k, .int .i64 at_, .slice a' l.length cap'] 26))) := ((Below.refl _ _).alloc (Nat.le_refl _) _).alloc (by simp) _
  have H0 : Hid (EIn w w.heap.size a l) := h0
  have H1 : Hid (EIn w w.heap.size a' l) := h1
  clear h0 h1
  go_enter Tryz.func7, Tryz.ntmps7
  go_wp2_with (go_at_call 20; refine (eqEventS_same a a' cap cap' l hl _ ((H0.out.below FB.out (Nat.le_refl _)).mono FB.out.size) ((H1.out.below FB.out (Nat.le_refl _)).mono FB.out.size)).mono ?_; rintro e w1 ⟨rfl, hb⟩; have FB : Hid (Below w.heap.size w w1) := FB.out.trans (hb.mono FB.out.size); clear hb)
  go_ret
  exact ⟨rfl, FB.out⟩
set_option maxRecDepth 20000 in
set_option maxHeartbeats 16000000 in
theorem markEventsResult_any (B : Nat) (kc at_ : Int) (v : Value) (l : List Ev) (k : Int) (k1 : 0 ≤ k) (k2 : k ≤ 100000000) (hl : l.length ≤ 1048576) (w : World) (h : OwnE w B v l) :
    Calls Tryz.prog 8 #[.agg #[.int .i64 kc, .int .i64 at_, v], .int .i64 k] w fun e w' => e = .returned (.int .i64 (k + 5 * l.length)) ∧ OwnE w' B v (markEL k l.length) ∧ Turn w w' v := by
  have hlt : ∀ j, v.ownBlock = some j → j < w.heap.size := fun j hj => (h.lt j hj).2
  have HO : Hid (OwnE (w.alloc (.cells #[.int .i64 kc, .int .i64 at_, v] 26)) B v l) := h.alloc _
  have HG : Hid (Turn w (w.alloc (.cells #[.int .i64 kc, .int .i64 at_, v] 26)) v) := ⟨World.grownBy_alloc w _ _⟩
  clear h
  go_enter Tryz.func8, Tryz.ntmps8
  go_wp2_with (go_at_call 21; refine (markEventS_any B v l k k1 k2 hl _ HO.out).mono ?_; rintro e w1 ⟨rfl, ho, hg⟩; have HO : Hid (OwnE w1 B v (markEL k l.length)) := ho; have HG : Hid (Turn w w1 v) := HG.out.trans ⟨hg⟩; clear ho hg)
  go_ret
  exact ⟨rfl, HO.out, HG.out⟩
set_option maxRecDepth 20000 in
set_option maxHeartbeats 16000000 in
theorem heldEventsResult_any (B : Nat) (kc at_ : Int) (v : Value) (n : Nat) (k : Int) (k1 : 0 ≤ k) (k2 : k ≤ 100000000) (hl : n ≤ 1048576) (w : World) (h : OwnE w B v (markEL k n)) :
    Calls Tryz.prog 9 #[.agg #[.int .i64 kc, .int .i64 at_, v], .int .i64 k] w fun e w' => e = .returned (.int .i64 (k + 5 * n)) ∧ Below w.heap.size w w' := by
  have HO : Hid (OwnE (w.alloc (.cells #[.int .i64 kc, .int .i64 at_, v] 26)) B v (markEL k n)) := h.alloc _
  have FB : Hid (Below w.heap.size w (w.alloc (.cells #[.int .i64 kc, .int .i64 at_, v] 26))) := (Below.refl _ _).alloc (Nat.le_refl _) _
  have hn0 : ¬ (k + 5 * (n : Int) < 0) := by omega
  clear h
  go_enter Tryz.func9, Tryz.ntmps9
  go_wp2_with (go_at_call 22; refine (heldEventS_any B v n k k1 k2 hl _ HO.out).mono ?_; rintro e w1 ⟨rfl, hb⟩; obtain rfl := hb.symm; clear hb)
  go_ret
  exact ⟨rfl, FB.out⟩
theorem OwnE.einS {w : World} {B n cap : Nat} {a : Option Addr} {l : List Ev} (h : OwnE w B (.slice a n cap) l) : EIn w w.heap.size a l := by
  obtain ⟨a', cap', e, hp⟩ := h.pin
  injection e with e1 e2 e3
  subst e1
  exact hp
theorem OwnE.putB {B b : Nat} {v : Value} {l : List Ev} (hne : ∀ k, v.ownBlock = some k → k ≠ b) : ∀ (vs : List Value) (j : Nat) (W : World), OwnE W B v l → OwnE (putB W b j vs) B v l := by
  intro vs
  induction vs with
  | nil => intro j W h; exact h
  | cons u vs ih => intro j W h; exact ih (j + 1) _ (h.other (p := ⟨b, j, none⟩) (fun e => hne _ e rfl) u)
theorem rowsE_ne {u v : Option Nat} {g : Nat} (h1 : ∀ k, u = some k → k < g) (h2 : ∀ k, v = some k → g < k) : u = none ∨ u ≠ v := by
  cases u with
  | none => exact Or.inl rfl
  | some j => exact Or.inr (fun e => by have := h1 j rfl; have := h2 j e.symm; omega)
end Go.Proofs.YtonmocgoelkofaaGreatDoor
