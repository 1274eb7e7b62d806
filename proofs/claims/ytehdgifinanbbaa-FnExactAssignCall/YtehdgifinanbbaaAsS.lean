/-
  The model's group: to which car a call goes.
-/
import Derived.Test.YtehdgifinanbbaaGfS
import Derived.Test.YtehdgifinanbbaaPersAo
import Derived.Test.YtehdgifinanbbaaAsP
import Derived.Test.YtehdgifinanbbaaPersE
import Derived.BigGuardPart
namespace Go.Proofs.Ytehdgifinanbbaa
open Go.RowKit Pl
set_option linter.unusedSimpArgs false
set_option linter.unusedVariables false

set_option maxRecDepth 20000 in
set_option maxHeartbeats 16000000 in
theorem l8Busy_any (lb lo : Nat) (nx : Int) (pa : Option Addr) (pc : Nat) (ps : List Pe) (sh ca : Int) (hlp : ps.length ≤ 1048576) (w : World) (hL : LAo w lb lo nx pa ps.length pc) (hP : PIn w w.heap.size pa ps) :
    Calls Try.prog 93 #[.pointer (some ⟨lb, lo, none⟩), .int .i64 sh, .int .i64 ca] w fun e w' => e = .returned (.int .i64 (busy ps sh ca)) ∧ Below w.heap.size w w' := by
  have HL : Hid (LAo w lb lo nx pa ps.length pc) := hL
  have HP : Hid (PIn w w.heap.size pa ps) := hP
  have FB : Hid (Below w.heap.size w w) := Below.refl _ _
  have ub := busy_bd ps sh ca
  unfold busy at ub ⊢
  have ew : IntKind.i64.wrap ((cnt 0 sh ca ps : Int) + (cnt 1 sh ca ps : Int)) = (cnt 0 sh ca ps : Int) + (cnt 1 sh ca ps : Int) := IntWalk.i64_in _ (by omega)
  clear hL hP ub
  go_enter Try.func93, Try.ntmps93
  go_wp2_with (go_at_call 60; refine (l7Count_anyO lb lo nx pa pc ps _ sh ca hlp _ HL.out ((HP.out.below FB.out (Nat.le_refl _)).mono FB.out.size)).mono ?_; rintro e w1 ⟨rfl, hb⟩; have HL : Hid (LAo w1 lb lo nx pa ps.length pc) := HL.out.below hb HL.out.lt; have FB : Hid (Below w.heap.size w w1) := FB.out.trans (hb.mono FB.out.size); clear hb)
  go_ret
  exact ⟨rfl, FB.out⟩
set_option maxRecDepth 20000 in
set_option maxHeartbeats 32000000 in
theorem l8Assign_any (gb : Nat) (h : Hs) (ds : List Dk) (da : Option Addr) (dc : Nat) (nx : Int) (ps : List Pe) (pa : Option Addr) (pc : Nat) (tk : Int) (rc : Bool) (f t : Int) (f0 : 0 ≤ f) (f1 : f ≤ 11) (t0 : 0 ≤ t) (t1 : t ≤ 11) (hld : ds.length ≤ 1048576) (hlp : ps.length ≤ 1048576) (w : World) (hG : Blk w gb (gvs h (.slice da ds.length dc) nx (.slice pa ps.length pc) tk rc)) (hP : PIn w w.heap.size pa ps) :
    Calls Try.prog 52 #[.pointer (some ⟨gb, 0, none⟩), .int .i64 f, .int .i64 t] w fun e w' => e = .returned (.tuple #[.int .i64 (asgK ps (Hs.pref h f t) ds.length 2).1, .int .i64 (asgK ps (Hs.pref h f t) ds.length 2).2]) ∧ Below w.heap.size w w' := by
  have HP : Hid (PIn w w.heap.size pa ps) := hP
  have FG : Hid (Blk w gb (gvs h (.slice da ds.length dc) nx (.slice pa ps.length pc) tk rc)) := hG
  have FB : Hid (Below w.heap.size w w) := Below.refl _ _
  have x0 := FG.out.c 0 _ rfl
  have ew : IntKind.i64.wrap (f + t) = f + t := IntWalk.i64_in _ (by omega)
  obtain ⟨p, hp⟩ : ∃ p, Hs.pref h f t = p := ⟨_, rfl⟩
  rw [hp]
  have pv : p = 0 ∨ p = 1 := by rw [← hp]; unfold Hs.pref; split <;> simp
  have e1 : IntKind.i64.wrap (1 - p) = 1 - p := IntWalk.i64_in _ (by omega)
  clear hG hP
  have hx : asgK ps p ds.length 2 = asgRow ps (1 - p) (asgRow ps p (0, p) ds.length) ds.length := rfl
  clear hx
  rcases pv with z | z
  · subst z
    have d : decide (h.fl ≤ f + t) = false := decide_eq_false (by unfold Hs.pref at hp; split at hp <;> omega)
    clear hp
    go_enter Try.func52, Try.ntmps52
    go_wp2_with fail
    clear x0 d
    go_loopw [9, 10, 11] (fun bb cc kk wr => ∃ k : Nat, kk = .int .i64 k ∧ k ≤ 2 ∧ bb = .int .i64 (asgK ps 0 ds.length k).1 ∧ cc = .int .i64 (asgK ps 0 ds.length k).2 ∧ Blk wr gb (gvs h (.slice da ds.length dc) nx (.slice pa ps.length pc) tk rc) ∧ Below w.heap.size w wr) (fun _ _ kk _ => 2 - (intOf kk).toNat)
    case atStart => exact ⟨0, rfl, by omega, rfl, rfl, FG.out, FB.out⟩
    case round =>
      obtain ⟨k, rfl, hk, rfl, rfl, h0, h1⟩ := hrel
      have FG : Hid (Blk wr gb (gvs h (.slice da ds.length dc) nx (.slice pa ps.length pc) tk rc)) := h0
      have FB : Hid (Below w.heap.size w wr) := h1
      clear h0 h1
      have kc : k = 0 ∨ k = 1 ∨ k = 2 := by omega
      rcases kc with q | q | q
      · subst q
        have x12 := FG.out.c 12 _ rfl
        go_wp2_with fail
        go_loopw [9, 10, 13] (fun bb cc ss wr => ∃ s : Nat, ss = .int .i64 s ∧ s ≤ ds.length ∧ bb = .int .i64 (asgRow ps 0 (0, 0) s).1 ∧ cc = .int .i64 (asgRow ps 0 (0, 0) s).2 ∧ Blk wr gb (gvs h (.slice da ds.length dc) nx (.slice pa ps.length pc) tk rc) ∧ Below w.heap.size w wr) (fun _ _ ss _ => ds.length - (intOf ss).toNat)
        case atStart => exact ⟨0, rfl, by omega, rfl, rfl, FG.out, FB.out⟩
        case round =>
          obtain ⟨s, rfl, hs, rfl, rfl, h0, h1⟩ := hrel
          have FG : Hid (Blk wr gb (gvs h (.slice da ds.length dc) nx (.slice pa ps.length pc) tk rc)) := h0
          have FB : Hid (Below w.heap.size w wr) := h1
          clear h0 h1
          have x12 := FG.out.c 12 _ rfl
          by_cases hlt : s < ds.length
          · obtain ⟨x, hx⟩ : ∃ x, (asgRow ps 0 (0, 0) s).1 = x := ⟨_, rfl⟩
            obtain ⟨y, hy⟩ : ∃ y, (asgRow ps 0 (0, 0) s).2 = y := ⟨_, rfl⟩
            have HX := asgRow_next hx hy
            rw [hx, hy]
            clear hx hy
            by_cases c : busy ps s 0 < busy ps x y
            · have lt : decide (busy ps s 0 < busy ps x y) = true := decide_eq_true c
              have HT : Hid (Value.int .i64 (s : Int) = .int .i64 (asgRow ps 0 (0, 0) (s + 1)).1 ∧ Value.int .i64 0 = .int .i64 (asgRow ps 0 (0, 0) (s + 1)).2) := by rw [HX, if_pos c]; exact ⟨rfl, rfl⟩
              clear HX c
              go_wp2_with fail
              have FG : Hid (Blk wr.drew gb (gvs h (.slice da ds.length dc) nx (.slice pa ps.length pc) tk rc)) := FG.out.below (Below.refl _ _).drew FG.out.lt
              have FB : Hid (Below w.heap.size w wr.drew) := FB.out.drew
              have m14 := FG.out.c 14 _ rfl
              refine wp_region_held_drew (S := (fun w'' => w''.cell? ⟨gb, 14, none⟩ = some (.slice pa ps.length pc))) (by kernel_rfl) (by (try dsimp only); first | exact ⟨m14⟩ | go_keep) (fun hHeld => ?_)
              obtain ⟨v_1, hw1⟩ : ∃ v_1, v_1 = wr.drew := ⟨_, rfl⟩
              have FG : Hid (Blk v_1 gb (gvs h (.slice da ds.length dc) nx (.slice pa ps.length pc) tk rc)) := by rw [hw1]; exact FG.out
              have FB : Hid (Below w.heap.size w v_1) := by rw [hw1]; exact FB.out
              rw [← hw1] at hHeld ⊢
              clear hw1
              have m14 := FG.out.c 14 _ rfl
              refine wpAnyH_take (i := 0) (v := _) rfl (by kernel_rfl) (by kernel_rfl) (by kernel_rfl) (fun _ _ _ h => h) (Or.inl ⟨by kernel_rfl, by (intro wx hSw; (try dsimp only at hSw); go_simp <;> with_reducible rfl)⟩) (by assumption) ?_
              try simp only [Act.put, List.getElem_toArray, List.getElem_cons_succ, List.getElem_cons_zero, List.setIfInBounds_toArray, List.set_cons_zero, List.set_cons_succ]
              refine wpAnyH_take (i := 1) (v := _) rfl (by kernel_rfl) (by kernel_rfl) (by kernel_rfl) (fun _ _ _ h => h) (Or.inl ⟨by kernel_rfl, by (intro wx hSw; (try dsimp only at hSw); go_simp <;> with_reducible rfl)⟩) (by assumption) ?_
              try simp only [Act.put, List.getElem_toArray, List.getElem_cons_succ, List.getElem_cons_zero, List.setIfInBounds_toArray, List.set_cons_zero, List.set_cons_succ]
              refine wpAnyH_take (i := 2) (v := _) rfl (by kernel_rfl) (by kernel_rfl) (by kernel_rfl) (fun _ _ _ h => h) (Or.inl ⟨by kernel_rfl, by (intro wx hSw; (try dsimp only at hSw); go_simp <;> with_reducible rfl)⟩) (by assumption) ?_
              try simp only [Act.put, List.getElem_toArray, List.getElem_cons_succ, List.getElem_cons_zero, List.setIfInBounds_toArray, List.set_cons_zero, List.set_cons_succ]
              refine wpAnyH_take (i := 3) (v := _) rfl (by kernel_rfl) (by kernel_rfl) (by kernel_rfl) (fun _ _ _ h => h) (Or.inl ⟨by kernel_rfl, by (intro wx hSw; (try dsimp only at hSw); go_simp <;> with_reducible rfl)⟩) (by assumption) ?_
              try simp only [Act.put, List.getElem_toArray, List.getElem_cons_succ, List.getElem_cons_zero, List.setIfInBounds_toArray, List.set_cons_zero, List.set_cons_succ]
              refine wpAnyH_take (i := 4) (v := _) rfl (by kernel_rfl) (by kernel_rfl) (by kernel_rfl) (fun _ _ _ h => h) (Or.inl ⟨by kernel_rfl, by (intro wx hSw; (try dsimp only at hSw); go_simp <;> with_reducible rfl)⟩) (by assumption) ?_
              try simp only [Act.put, List.getElem_toArray, List.getElem_cons_succ, List.getElem_cons_zero, List.setIfInBounds_toArray, List.set_cons_zero, List.set_cons_succ]
              refine wpAnyH_take (i := 6) (v := _) rfl (by kernel_rfl) (by kernel_rfl) (by kernel_rfl) (fun _ _ _ h => h) (Or.inl ⟨by kernel_rfl, by (intro wx hSw; (try dsimp only at hSw); go_simp <;> with_reducible rfl)⟩) (by assumption) ?_
              try simp only [Act.put, List.getElem_toArray, List.getElem_cons_succ, List.getElem_cons_zero, List.setIfInBounds_toArray, List.set_cons_zero, List.set_cons_succ]
              refine wpAnyH_take (i := 7) (v := _) rfl (by kernel_rfl) (by kernel_rfl) (by kernel_rfl) (fun _ _ _ h => h) (Or.inl ⟨by kernel_rfl, by (intro wx hSw; (try dsimp only at hSw); go_simp <;> with_reducible rfl)⟩) (by assumption) ?_
              try simp only [Act.put, List.getElem_toArray, List.getElem_cons_succ, List.getElem_cons_zero, List.setIfInBounds_toArray, List.set_cons_zero, List.set_cons_succ]
              refine wpAnyH_take (i := 8) (v := _) rfl (by kernel_rfl) (by kernel_rfl) (by kernel_rfl) (fun _ _ _ h => h) (Or.inl ⟨by kernel_rfl, by (intro wx hSw; (try dsimp only at hSw); go_simp <;> with_reducible rfl)⟩) (by assumption) ?_
              try simp only [Act.put, List.getElem_toArray, List.getElem_cons_succ, List.getElem_cons_zero, List.setIfInBounds_toArray, List.set_cons_zero, List.set_cons_succ]
              refine wpAnyH_take (i := 9) (v := _) rfl (by kernel_rfl) (by kernel_rfl) (by kernel_rfl) (fun _ _ _ h => h) (Or.inl ⟨by kernel_rfl, by (intro wx hSw; (try dsimp only at hSw); go_simp <;> with_reducible rfl)⟩) (by assumption) ?_
              try simp only [Act.put, List.getElem_toArray, List.getElem_cons_succ, List.getElem_cons_zero, List.setIfInBounds_toArray, List.set_cons_zero, List.set_cons_succ]
              refine wpAnyH_take (i := 10) (v := _) rfl (by kernel_rfl) (by kernel_rfl) (by kernel_rfl) (fun _ _ _ h => h) (Or.inl ⟨by kernel_rfl, by (intro wx hSw; (try dsimp only at hSw); go_simp <;> with_reducible rfl)⟩) (by assumption) ?_
              try simp only [Act.put, List.getElem_toArray, List.getElem_cons_succ, List.getElem_cons_zero, List.setIfInBounds_toArray, List.set_cons_zero, List.set_cons_succ]
              refine wpAnyH_ready (rs := [5]) (by kernel_rfl) (by simp) ?_
              refine (AllReadyH.cons rfl (fun K hK => ?_) AllReadyH.nil)
              go_simp
              refine (l8Busy_any gb 13 nx pa pc ps _ _ hlp _ ⟨FG.out.c 13 _ rfl, FG.out.c 14 _ rfl⟩ ((HP.out.below FB.out (Nat.le_refl _)).mono FB.out.size)).mono ?_
              rintro e v_2 ⟨rfl, hb⟩
              have FG : Hid (Blk v_2 gb (gvs h (.slice da ds.length dc) nx (.slice pa ps.length pc) tk rc)) := FG.out.below hb FG.out.lt
              have FB : Hid (Below w.heap.size w v_2) := FB.out.trans (hb.mono FB.out.size)
              clear hb
              have m14 := FG.out.c 14 _ rfl
              try dsimp only
              refine hK.out _ _ (by (try dsimp only); first | exact ⟨m14⟩ | go_keep) (fun hHeld => ?_)
              clear hK K
              try simp only [Act.put, List.getElem_toArray, List.getElem_cons_succ, List.getElem_cons_zero, List.setIfInBounds_toArray, List.set_cons_zero, List.set_cons_succ]
              refine wpAnyH_ready (rs := [11]) (by kernel_rfl) (by simp) ?_
              refine (AllReadyH.cons rfl (fun K hK => ?_) AllReadyH.nil)
              go_simp
              refine (l8Busy_any gb 13 nx pa pc ps _ _ hlp _ ⟨FG.out.c 13 _ rfl, FG.out.c 14 _ rfl⟩ ((HP.out.below FB.out (Nat.le_refl _)).mono FB.out.size)).mono ?_
              rintro e v_3 ⟨rfl, hb⟩
              have FG : Hid (Blk v_3 gb (gvs h (.slice da ds.length dc) nx (.slice pa ps.length pc) tk rc)) := FG.out.below hb FG.out.lt
              have FB : Hid (Below w.heap.size w v_3) := FB.out.trans (hb.mono FB.out.size)
              clear hb
              have m14 := FG.out.c 14 _ rfl
              try dsimp only
              refine hK.out _ _ (by (try dsimp only); first | exact ⟨m14⟩ | go_keep) (fun hHeld => ?_)
              clear hK K
              try simp only [Act.put, List.getElem_toArray, List.getElem_cons_succ, List.getElem_cons_zero, List.setIfInBounds_toArray, List.set_cons_zero, List.set_cons_succ]
              refine wpAnyH_take (i := 12) (v := _) rfl (by kernel_rfl) (by kernel_rfl) (by kernel_rfl) (fun _ _ _ h => h) (Or.inl ⟨by kernel_rfl, by (intro wx hSw; (try dsimp only at hSw); go_simp <;> with_reducible rfl)⟩) (by assumption) ?_
              try simp only [Act.put, List.getElem_toArray, List.getElem_cons_succ, List.getElem_cons_zero, List.setIfInBounds_toArray, List.set_cons_zero, List.set_cons_succ]
              refine wpAnyH_done (by kernel_rfl) ?_ _
              go_wp2_with fail
              go_roundw
              case rel => ((repeat apply Exists.intro); exact ⟨⟨s + 1, by simp, by omega, HT.out.1, HT.out.2, FG.out, FB.out⟩, rfl⟩)
              case measure => simp [intOf]; omega
            · have lt : decide (busy ps s 0 < busy ps x y) = false := decide_eq_false c
              have HT : Hid (Value.int .i64 x = .int .i64 (asgRow ps 0 (0, 0) (s + 1)).1 ∧ Value.int .i64 y = .int .i64 (asgRow ps 0 (0, 0) (s + 1)).2) := by rw [HX, if_neg c]; exact ⟨rfl, rfl⟩
              clear HX c
              go_wp2_with fail
              have FG : Hid (Blk wr.drew gb (gvs h (.slice da ds.length dc) nx (.slice pa ps.length pc) tk rc)) := FG.out.below (Below.refl _ _).drew FG.out.lt
              have FB : Hid (Below w.heap.size w wr.drew) := FB.out.drew
              have m14 := FG.out.c 14 _ rfl
              refine wp_region_held_drew (S := (fun w'' => w''.cell? ⟨gb, 14, none⟩ = some (.slice pa ps.length pc))) (by kernel_rfl) (by (try dsimp only); first | exact ⟨m14⟩ | go_keep) (fun hHeld => ?_)
              obtain ⟨v_4, hw1⟩ : ∃ v_4, v_4 = wr.drew := ⟨_, rfl⟩
              have FG : Hid (Blk v_4 gb (gvs h (.slice da ds.length dc) nx (.slice pa ps.length pc) tk rc)) := by rw [hw1]; exact FG.out
              have FB : Hid (Below w.heap.size w v_4) := by rw [hw1]; exact FB.out
              rw [← hw1] at hHeld ⊢
              clear hw1
              have m14 := FG.out.c 14 _ rfl
              refine wpAnyH_take (i := 0) (v := _) rfl (by kernel_rfl) (by kernel_rfl) (by kernel_rfl) (fun _ _ _ h => h) (Or.inl ⟨by kernel_rfl, by (intro wx hSw; (try dsimp only at hSw); go_simp <;> with_reducible rfl)⟩) (by assumption) ?_
              try simp only [Act.put, List.getElem_toArray, List.getElem_cons_succ, List.getElem_cons_zero, List.setIfInBounds_toArray, List.set_cons_zero, List.set_cons_succ]
              refine wpAnyH_take (i := 1) (v := _) rfl (by kernel_rfl) (by kernel_rfl) (by kernel_rfl) (fun _ _ _ h => h) (Or.inl ⟨by kernel_rfl, by (intro wx hSw; (try dsimp only at hSw); go_simp <;> with_reducible rfl)⟩) (by assumption) ?_
              try simp only [Act.put, List.getElem_toArray, List.getElem_cons_succ, List.getElem_cons_zero, List.setIfInBounds_toArray, List.set_cons_zero, List.set_cons_succ]
              refine wpAnyH_take (i := 2) (v := _) rfl (by kernel_rfl) (by kernel_rfl) (by kernel_rfl) (fun _ _ _ h => h) (Or.inl ⟨by kernel_rfl, by (intro wx hSw; (try dsimp only at hSw); go_simp <;> with_reducible rfl)⟩) (by assumption) ?_
              try simp only [Act.put, List.getElem_toArray, List.getElem_cons_succ, List.getElem_cons_zero, List.setIfInBounds_toArray, List.set_cons_zero, List.set_cons_succ]
              refine wpAnyH_take (i := 3) (v := _) rfl (by kernel_rfl) (by kernel_rfl) (by kernel_rfl) (fun _ _ _ h => h) (Or.inl ⟨by kernel_rfl, by (intro wx hSw; (try dsimp only at hSw); go_simp <;> with_reducible rfl)⟩) (by assumption) ?_
              try simp only [Act.put, List.getElem_toArray, List.getElem_cons_succ, List.getElem_cons_zero, List.setIfInBounds_toArray, List.set_cons_zero, List.set_cons_succ]
              refine wpAnyH_take (i := 4) (v := _) rfl (by kernel_rfl) (by kernel_rfl) (by kernel_rfl) (fun _ _ _ h => h) (Or.inl ⟨by kernel_rfl, by (intro wx hSw; (try dsimp only at hSw); go_simp <;> with_reducible rfl)⟩) (by assumption) ?_
              try simp only [Act.put, List.getElem_toArray, List.getElem_cons_succ, List.getElem_cons_zero, List.setIfInBounds_toArray, List.set_cons_zero, List.set_cons_succ]
              refine wpAnyH_take (i := 6) (v := _) rfl (by kernel_rfl) (by kernel_rfl) (by kernel_rfl) (fun _ _ _ h => h) (Or.inl ⟨by kernel_rfl, by (intro wx hSw; (try dsimp only at hSw); go_simp <;> with_reducible rfl)⟩) (by assumption) ?_
              try simp only [Act.put, List.getElem_toArray, List.getElem_cons_succ, List.getElem_cons_zero, List.setIfInBounds_toArray, List.set_cons_zero, List.set_cons_succ]
              refine wpAnyH_take (i := 7) (v := _) rfl (by kernel_rfl) (by kernel_rfl) (by kernel_rfl) (fun _ _ _ h => h) (Or.inl ⟨by kernel_rfl, by (intro wx hSw; (try dsimp only at hSw); go_simp <;> with_reducible rfl)⟩) (by assumption) ?_
              try simp only [Act.put, List.getElem_toArray, List.getElem_cons_succ, List.getElem_cons_zero, List.setIfInBounds_toArray, List.set_cons_zero, List.set_cons_succ]
              refine wpAnyH_take (i := 8) (v := _) rfl (by kernel_rfl) (by kernel_rfl) (by kernel_rfl) (fun _ _ _ h => h) (Or.inl ⟨by kernel_rfl, by (intro wx hSw; (try dsimp only at hSw); go_simp <;> with_reducible rfl)⟩) (by assumption) ?_
              try simp only [Act.put, List.getElem_toArray, List.getElem_cons_succ, List.getElem_cons_zero, List.setIfInBounds_toArray, List.set_cons_zero, List.set_cons_succ]
              refine wpAnyH_take (i := 9) (v := _) rfl (by kernel_rfl) (by kernel_rfl) (by kernel_rfl) (fun _ _ _ h => h) (Or.inl ⟨by kernel_rfl, by (intro wx hSw; (try dsimp only at hSw); go_simp <;> with_reducible rfl)⟩) (by assumption) ?_
              try simp only [Act.put, List.getElem_toArray, List.getElem_cons_succ, List.getElem_cons_zero, List.setIfInBounds_toArray, List.set_cons_zero, List.set_cons_succ]
              refine wpAnyH_take (i := 10) (v := _) rfl (by kernel_rfl) (by kernel_rfl) (by kernel_rfl) (fun _ _ _ h => h) (Or.inl ⟨by kernel_rfl, by (intro wx hSw; (try dsimp only at hSw); go_simp <;> with_reducible rfl)⟩) (by assumption) ?_
              try simp only [Act.put, List.getElem_toArray, List.getElem_cons_succ, List.getElem_cons_zero, List.setIfInBounds_toArray, List.set_cons_zero, List.set_cons_succ]
              refine wpAnyH_ready (rs := [5]) (by kernel_rfl) (by simp) ?_
              refine (AllReadyH.cons rfl (fun K hK => ?_) AllReadyH.nil)
              go_simp
              refine (l8Busy_any gb 13 nx pa pc ps _ _ hlp _ ⟨FG.out.c 13 _ rfl, FG.out.c 14 _ rfl⟩ ((HP.out.below FB.out (Nat.le_refl _)).mono FB.out.size)).mono ?_
              rintro e v_5 ⟨rfl, hb⟩
              have FG : Hid (Blk v_5 gb (gvs h (.slice da ds.length dc) nx (.slice pa ps.length pc) tk rc)) := FG.out.below hb FG.out.lt
              have FB : Hid (Below w.heap.size w v_5) := FB.out.trans (hb.mono FB.out.size)
              clear hb
              have m14 := FG.out.c 14 _ rfl
              try dsimp only
              refine hK.out _ _ (by (try dsimp only); first | exact ⟨m14⟩ | go_keep) (fun hHeld => ?_)
              clear hK K
              try simp only [Act.put, List.getElem_toArray, List.getElem_cons_succ, List.getElem_cons_zero, List.setIfInBounds_toArray, List.set_cons_zero, List.set_cons_succ]
              refine wpAnyH_ready (rs := [11]) (by kernel_rfl) (by simp) ?_
              refine (AllReadyH.cons rfl (fun K hK => ?_) AllReadyH.nil)
              go_simp
              refine (l8Busy_any gb 13 nx pa pc ps _ _ hlp _ ⟨FG.out.c 13 _ rfl, FG.out.c 14 _ rfl⟩ ((HP.out.below FB.out (Nat.le_refl _)).mono FB.out.size)).mono ?_
              rintro e v_6 ⟨rfl, hb⟩
              have FG : Hid (Blk v_6 gb (gvs h (.slice da ds.length dc) nx (.slice pa ps.length pc) tk rc)) := FG.out.below hb FG.out.lt
              have FB : Hid (Below w.heap.size w v_6) := FB.out.trans (hb.mono FB.out.size)
              clear hb
              have m14 := FG.out.c 14 _ rfl
              try dsimp only
              refine hK.out _ _ (by (try dsimp only); first | exact ⟨m14⟩ | go_keep) (fun hHeld => ?_)
              clear hK K
              try simp only [Act.put, List.getElem_toArray, List.getElem_cons_succ, List.getElem_cons_zero, List.setIfInBounds_toArray, List.set_cons_zero, List.set_cons_succ]
              refine wpAnyH_take (i := 12) (v := _) rfl (by kernel_rfl) (by kernel_rfl) (by kernel_rfl) (fun _ _ _ h => h) (Or.inl ⟨by kernel_rfl, by (intro wx hSw; (try dsimp only at hSw); go_simp <;> with_reducible rfl)⟩) (by assumption) ?_
              try simp only [Act.put, List.getElem_toArray, List.getElem_cons_succ, List.getElem_cons_zero, List.setIfInBounds_toArray, List.set_cons_zero, List.set_cons_succ]
              refine wpAnyH_done (by kernel_rfl) ?_ _
              go_wp2_with fail
              go_roundw
              case rel => ((repeat apply Exists.intro); exact ⟨⟨s + 1, by simp, by omega, HT.out.1, HT.out.2, FG.out, FB.out⟩, rfl⟩)
              case measure => simp [intOf]; omega
          · have es : s = ds.length := by omega
            subst es
            go_wp2_with fail
            go_roundw
            case rel => exact ⟨1, by simp, by omega, rfl, rfl, FG.out, FB.out⟩
            case measure => simp [intOf]
      · subst q
        have x12 := FG.out.c 12 _ rfl
        go_wp2_with fail
        go_loopw [9, 10, 13] (fun bb cc ss wr => ∃ s : Nat, ss = .int .i64 s ∧ s ≤ ds.length ∧ bb = .int .i64 (asgRow ps 1 (asgRow ps 0 (0, 0) ds.length) s).1 ∧ cc = .int .i64 (asgRow ps 1 (asgRow ps 0 (0, 0) ds.length) s).2 ∧ Blk wr gb (gvs h (.slice da ds.length dc) nx (.slice pa ps.length pc) tk rc) ∧ Below w.heap.size w wr) (fun _ _ ss _ => ds.length - (intOf ss).toNat)
        case atStart => exact ⟨0, rfl, by omega, rfl, rfl, FG.out, FB.out⟩
        case round =>
          obtain ⟨s, rfl, hs, rfl, rfl, h0, h1⟩ := hrel
          have FG : Hid (Blk wr gb (gvs h (.slice da ds.length dc) nx (.slice pa ps.length pc) tk rc)) := h0
          have FB : Hid (Below w.heap.size w wr) := h1
          clear h0 h1
          have x12 := FG.out.c 12 _ rfl
          by_cases hlt : s < ds.length
          · obtain ⟨x, hx⟩ : ∃ x, (asgRow ps 1 (asgRow ps 0 (0, 0) ds.length) s).1 = x := ⟨_, rfl⟩
            obtain ⟨y, hy⟩ : ∃ y, (asgRow ps 1 (asgRow ps 0 (0, 0) ds.length) s).2 = y := ⟨_, rfl⟩
            have HX := asgRow_next hx hy
            rw [hx, hy]
            clear hx hy
            by_cases c : busy ps s 1 < busy ps x y
            · have lt : decide (busy ps s 1 < busy ps x y) = true := decide_eq_true c
              have HT : Hid (Value.int .i64 (s : Int) = .int .i64 (asgRow ps 1 (asgRow ps 0 (0, 0) ds.length) (s + 1)).1 ∧ Value.int .i64 1 = .int .i64 (asgRow ps 1 (asgRow ps 0 (0, 0) ds.length) (s + 1)).2) := by rw [HX, if_pos c]; exact ⟨rfl, rfl⟩
              clear HX c
              go_wp2_with fail
              have FG : Hid (Blk wr.drew gb (gvs h (.slice da ds.length dc) nx (.slice pa ps.length pc) tk rc)) := FG.out.below (Below.refl _ _).drew FG.out.lt
              have FB : Hid (Below w.heap.size w wr.drew) := FB.out.drew
              have m14 := FG.out.c 14 _ rfl
              refine wp_region_held_drew (S := (fun w'' => w''.cell? ⟨gb, 14, none⟩ = some (.slice pa ps.length pc))) (by kernel_rfl) (by (try dsimp only); first | exact ⟨m14⟩ | go_keep) (fun hHeld => ?_)
              obtain ⟨v_7, hw1⟩ : ∃ v_7, v_7 = wr.drew := ⟨_, rfl⟩
              have FG : Hid (Blk v_7 gb (gvs h (.slice da ds.length dc) nx (.slice pa ps.length pc) tk rc)) := by rw [hw1]; exact FG.out
              have FB : Hid (Below w.heap.size w v_7) := by rw [hw1]; exact FB.out
              rw [← hw1] at hHeld ⊢
              clear hw1
              have m14 := FG.out.c 14 _ rfl
              refine wpAnyH_take (i := 0) (v := _) rfl (by kernel_rfl) (by kernel_rfl) (by kernel_rfl) (fun _ _ _ h => h) (Or.inl ⟨by kernel_rfl, by (intro wx hSw; (try dsimp only at hSw); go_simp <;> with_reducible rfl)⟩) (by assumption) ?_
              try simp only [Act.put, List.getElem_toArray, List.getElem_cons_succ, List.getElem_cons_zero, List.setIfInBounds_toArray, List.set_cons_zero, List.set_cons_succ]
              refine wpAnyH_take (i := 1) (v := _) rfl (by kernel_rfl) (by kernel_rfl) (by kernel_rfl) (fun _ _ _ h => h) (Or.inl ⟨by kernel_rfl, by (intro wx hSw; (try dsimp only at hSw); go_simp <;> with_reducible rfl)⟩) (by assumption) ?_
              try simp only [Act.put, List.getElem_toArray, List.getElem_cons_succ, List.getElem_cons_zero, List.setIfInBounds_toArray, List.set_cons_zero, List.set_cons_succ]
              refine wpAnyH_take (i := 2) (v := _) rfl (by kernel_rfl) (by kernel_rfl) (by kernel_rfl) (fun _ _ _ h => h) (Or.inl ⟨by kernel_rfl, by (intro wx hSw; (try dsimp only at hSw); go_simp <;> with_reducible rfl)⟩) (by assumption) ?_
              try simp only [Act.put, List.getElem_toArray, List.getElem_cons_succ, List.getElem_cons_zero, List.setIfInBounds_toArray, List.set_cons_zero, List.set_cons_succ]
              refine wpAnyH_take (i := 3) (v := _) rfl (by kernel_rfl) (by kernel_rfl) (by kernel_rfl) (fun _ _ _ h => h) (Or.inl ⟨by kernel_rfl, by (intro wx hSw; (try dsimp only at hSw); go_simp <;> with_reducible rfl)⟩) (by assumption) ?_
              try simp only [Act.put, List.getElem_toArray, List.getElem_cons_succ, List.getElem_cons_zero, List.setIfInBounds_toArray, List.set_cons_zero, List.set_cons_succ]
              refine wpAnyH_take (i := 4) (v := _) rfl (by kernel_rfl) (by kernel_rfl) (by kernel_rfl) (fun _ _ _ h => h) (Or.inl ⟨by kernel_rfl, by (intro wx hSw; (try dsimp only at hSw); go_simp <;> with_reducible rfl)⟩) (by assumption) ?_
              try simp only [Act.put, List.getElem_toArray, List.getElem_cons_succ, List.getElem_cons_zero, List.setIfInBounds_toArray, List.set_cons_zero, List.set_cons_succ]
              refine wpAnyH_take (i := 6) (v := _) rfl (by kernel_rfl) (by kernel_rfl) (by kernel_rfl) (fun _ _ _ h => h) (Or.inl ⟨by kernel_rfl, by (intro wx hSw; (try dsimp only at hSw); go_simp <;> with_reducible rfl)⟩) (by assumption) ?_
              try simp only [Act.put, List.getElem_toArray, List.getElem_cons_succ, List.getElem_cons_zero, List.setIfInBounds_toArray, List.set_cons_zero, List.set_cons_succ]
              refine wpAnyH_take (i := 7) (v := _) rfl (by kernel_rfl) (by kernel_rfl) (by kernel_rfl) (fun _ _ _ h => h) (Or.inl ⟨by kernel_rfl, by (intro wx hSw; (try dsimp only at hSw); go_simp <;> with_reducible rfl)⟩) (by assumption) ?_
              try simp only [Act.put, List.getElem_toArray, List.getElem_cons_succ, List.getElem_cons_zero, List.setIfInBounds_toArray, List.set_cons_zero, List.set_cons_succ]
              refine wpAnyH_take (i := 8) (v := _) rfl (by kernel_rfl) (by kernel_rfl) (by kernel_rfl) (fun _ _ _ h => h) (Or.inl ⟨by kernel_rfl, by (intro wx hSw; (try dsimp only at hSw); go_simp <;> with_reducible rfl)⟩) (by assumption) ?_
              try simp only [Act.put, List.getElem_toArray, List.getElem_cons_succ, List.getElem_cons_zero, List.setIfInBounds_toArray, List.set_cons_zero, List.set_cons_succ]
              refine wpAnyH_take (i := 9) (v := _) rfl (by kernel_rfl) (by kernel_rfl) (by kernel_rfl) (fun _ _ _ h => h) (Or.inl ⟨by kernel_rfl, by (intro wx hSw; (try dsimp only at hSw); go_simp <;> with_reducible rfl)⟩) (by assumption) ?_
              try simp only [Act.put, List.getElem_toArray, List.getElem_cons_succ, List.getElem_cons_zero, List.setIfInBounds_toArray, List.set_cons_zero, List.set_cons_succ]
              refine wpAnyH_take (i := 10) (v := _) rfl (by kernel_rfl) (by kernel_rfl) (by kernel_rfl) (fun _ _ _ h => h) (Or.inl ⟨by kernel_rfl, by (intro wx hSw; (try dsimp only at hSw); go_simp <;> with_reducible rfl)⟩) (by assumption) ?_
              try simp only [Act.put, List.getElem_toArray, List.getElem_cons_succ, List.getElem_cons_zero, List.setIfInBounds_toArray, List.set_cons_zero, List.set_cons_succ]
              refine wpAnyH_ready (rs := [5]) (by kernel_rfl) (by simp) ?_
              refine (AllReadyH.cons rfl (fun K hK => ?_) AllReadyH.nil)
              go_simp
              refine (l8Busy_any gb 13 nx pa pc ps _ _ hlp _ ⟨FG.out.c 13 _ rfl, FG.out.c 14 _ rfl⟩ ((HP.out.below FB.out (Nat.le_refl _)).mono FB.out.size)).mono ?_
              rintro e v_8 ⟨rfl, hb⟩
              have FG : Hid (Blk v_8 gb (gvs h (.slice da ds.length dc) nx (.slice pa ps.length pc) tk rc)) := FG.out.below hb FG.out.lt
              have FB : Hid (Below w.heap.size w v_8) := FB.out.trans (hb.mono FB.out.size)
              clear hb
              have m14 := FG.out.c 14 _ rfl
              try dsimp only
              refine hK.out _ _ (by (try dsimp only); first | exact ⟨m14⟩ | go_keep) (fun hHeld => ?_)
              clear hK K
              try simp only [Act.put, List.getElem_toArray, List.getElem_cons_succ, List.getElem_cons_zero, List.setIfInBounds_toArray, List.set_cons_zero, List.set_cons_succ]
              refine wpAnyH_ready (rs := [11]) (by kernel_rfl) (by simp) ?_
              refine (AllReadyH.cons rfl (fun K hK => ?_) AllReadyH.nil)
              go_simp
              refine (l8Busy_any gb 13 nx pa pc ps _ _ hlp _ ⟨FG.out.c 13 _ rfl, FG.out.c 14 _ rfl⟩ ((HP.out.below FB.out (Nat.le_refl _)).mono FB.out.size)).mono ?_
              rintro e v_9 ⟨rfl, hb⟩
              have FG : Hid (Blk v_9 gb (gvs h (.slice da ds.length dc) nx (.slice pa ps.length pc) tk rc)) := FG.out.below hb FG.out.lt
              have FB : Hid (Below w.heap.size w v_9) := FB.out.trans (hb.mono FB.out.size)
              clear hb
              have m14 := FG.out.c 14 _ rfl
              try dsimp only
              refine hK.out _ _ (by (try dsimp only); first | exact ⟨m14⟩ | go_keep) (fun hHeld => ?_)
              clear hK K
              try simp only [Act.put, List.getElem_toArray, List.getElem_cons_succ, List.getElem_cons_zero, List.setIfInBounds_toArray, List.set_cons_zero, List.set_cons_succ]
              refine wpAnyH_take (i := 12) (v := _) rfl (by kernel_rfl) (by kernel_rfl) (by kernel_rfl) (fun _ _ _ h => h) (Or.inl ⟨by kernel_rfl, by (intro wx hSw; (try dsimp only at hSw); go_simp <;> with_reducible rfl)⟩) (by assumption) ?_
              try simp only [Act.put, List.getElem_toArray, List.getElem_cons_succ, List.getElem_cons_zero, List.setIfInBounds_toArray, List.set_cons_zero, List.set_cons_succ]
              refine wpAnyH_done (by kernel_rfl) ?_ _
              go_wp2_with fail
              go_roundw
              case rel => ((repeat apply Exists.intro); exact ⟨⟨s + 1, by simp, by omega, HT.out.1, HT.out.2, FG.out, FB.out⟩, rfl⟩)
              case measure => simp [intOf]; omega
            · have lt : decide (busy ps s 1 < busy ps x y) = false := decide_eq_false c
              have HT : Hid (Value.int .i64 x = .int .i64 (asgRow ps 1 (asgRow ps 0 (0, 0) ds.length) (s + 1)).1 ∧ Value.int .i64 y = .int .i64 (asgRow ps 1 (asgRow ps 0 (0, 0) ds.length) (s + 1)).2) := by rw [HX, if_neg c]; exact ⟨rfl, rfl⟩
              clear HX c
              go_wp2_with fail
              have FG : Hid (Blk wr.drew gb (gvs h (.slice da ds.length dc) nx (.slice pa ps.length pc) tk rc)) := FG.out.below (Below.refl _ _).drew FG.out.lt
              have FB : Hid (Below w.heap.size w wr.drew) := FB.out.drew
              have m14 := FG.out.c 14 _ rfl
              refine wp_region_held_drew (S := (fun w'' => w''.cell? ⟨gb, 14, none⟩ = some (.slice pa ps.length pc))) (by kernel_rfl) (by (try dsimp only); first | exact ⟨m14⟩ | go_keep) (fun hHeld => ?_)
              obtain ⟨v_10, hw1⟩ : ∃ v_10, v_10 = wr.drew := ⟨_, rfl⟩
              have FG : Hid (Blk v_10 gb (gvs h (.slice da ds.length dc) nx (.slice pa ps.length pc) tk rc)) := by rw [hw1]; exact FG.out
              have FB : Hid (Below w.heap.size w v_10) := by rw [hw1]; exact FB.out
              rw [← hw1] at hHeld ⊢
              clear hw1
              have m14 := FG.out.c 14 _ rfl
              refine wpAnyH_take (i := 0) (v := _) rfl (by kernel_rfl) (by kernel_rfl) (by kernel_rfl) (fun _ _ _ h => h) (Or.inl ⟨by kernel_rfl, by (intro wx hSw; (try dsimp only at hSw); go_simp <;> with_reducible rfl)⟩) (by assumption) ?_
              try simp only [Act.put, List.getElem_toArray, List.getElem_cons_succ, List.getElem_cons_zero, List.setIfInBounds_toArray, List.set_cons_zero, List.set_cons_succ]
              refine wpAnyH_take (i := 1) (v := _) rfl (by kernel_rfl) (by kernel_rfl) (by kernel_rfl) (fun _ _ _ h => h) (Or.inl ⟨by kernel_rfl, by (intro wx hSw; (try dsimp only at hSw); go_simp <;> with_reducible rfl)⟩) (by assumption) ?_
              try simp only [Act.put, List.getElem_toArray, List.getElem_cons_succ, List.getElem_cons_zero, List.setIfInBounds_toArray, List.set_cons_zero, List.set_cons_succ]
              refine wpAnyH_take (i := 2) (v := _) rfl (by kernel_rfl) (by kernel_rfl) (by kernel_rfl) (fun _ _ _ h => h) (Or.inl ⟨by kernel_rfl, by (intro wx hSw; (try dsimp only at hSw); go_simp <;> with_reducible rfl)⟩) (by assumption) ?_
              try simp only [Act.put, List.getElem_toArray, List.getElem_cons_succ, List.getElem_cons_zero, List.setIfInBounds_toArray, List.set_cons_zero, List.set_cons_succ]
              refine wpAnyH_take (i := 3) (v := _) rfl (by kernel_rfl) (by kernel_rfl) (by kernel_rfl) (fun _ _ _ h => h) (Or.inl ⟨by kernel_rfl, by (intro wx hSw; (try dsimp only at hSw); go_simp <;> with_reducible rfl)⟩) (by assumption) ?_
              try simp only [Act.put, List.getElem_toArray, List.getElem_cons_succ, List.getElem_cons_zero, List.setIfInBounds_toArray, List.set_cons_zero, List.set_cons_succ]
              refine wpAnyH_take (i := 4) (v := _) rfl (by kernel_rfl) (by kernel_rfl) (by kernel_rfl) (fun _ _ _ h => h) (Or.inl ⟨by kernel_rfl, by (intro wx hSw; (try dsimp only at hSw); go_simp <;> with_reducible rfl)⟩) (by assumption) ?_
              try simp only [Act.put, List.getElem_toArray, List.getElem_cons_succ, List.getElem_cons_zero, List.setIfInBounds_toArray, List.set_cons_zero, List.set_cons_succ]
              refine wpAnyH_take (i := 6) (v := _) rfl (by kernel_rfl) (by kernel_rfl) (by kernel_rfl) (fun _ _ _ h => h) (Or.inl ⟨by kernel_rfl, by (intro wx hSw; (try dsimp only at hSw); go_simp <;> with_reducible rfl)⟩) (by assumption) ?_
              try simp only [Act.put, List.getElem_toArray, List.getElem_cons_succ, List.getElem_cons_zero, List.setIfInBounds_toArray, List.set_cons_zero, List.set_cons_succ]
              refine wpAnyH_take (i := 7) (v := _) rfl (by kernel_rfl) (by kernel_rfl) (by kernel_rfl) (fun _ _ _ h => h) (Or.inl ⟨by kernel_rfl, by (intro wx hSw; (try dsimp only at hSw); go_simp <;> with_reducible rfl)⟩) (by assumption) ?_
              try simp only [Act.put, List.getElem_toArray, List.getElem_cons_succ, List.getElem_cons_zero, List.setIfInBounds_toArray, List.set_cons_zero, List.set_cons_succ]
              refine wpAnyH_take (i := 8) (v := _) rfl (by kernel_rfl) (by kernel_rfl) (by kernel_rfl) (fun _ _ _ h => h) (Or.inl ⟨by kernel_rfl, by (intro wx hSw; (try dsimp only at hSw); go_simp <;> with_reducible rfl)⟩) (by assumption) ?_
              try simp only [Act.put, List.getElem_toArray, List.getElem_cons_succ, List.getElem_cons_zero, List.setIfInBounds_toArray, List.set_cons_zero, List.set_cons_succ]
              refine wpAnyH_take (i := 9) (v := _) rfl (by kernel_rfl) (by kernel_rfl) (by kernel_rfl) (fun _ _ _ h => h) (Or.inl ⟨by kernel_rfl, by (intro wx hSw; (try dsimp only at hSw); go_simp <;> with_reducible rfl)⟩) (by assumption) ?_
              try simp only [Act.put, List.getElem_toArray, List.getElem_cons_succ, List.getElem_cons_zero, List.setIfInBounds_toArray, List.set_cons_zero, List.set_cons_succ]
              refine wpAnyH_take (i := 10) (v := _) rfl (by kernel_rfl) (by kernel_rfl) (by kernel_rfl) (fun _ _ _ h => h) (Or.inl ⟨by kernel_rfl, by (intro wx hSw; (try dsimp only at hSw); go_simp <;> with_reducible rfl)⟩) (by assumption) ?_
              try simp only [Act.put, List.getElem_toArray, List.getElem_cons_succ, List.getElem_cons_zero, List.setIfInBounds_toArray, List.set_cons_zero, List.set_cons_succ]
              refine wpAnyH_ready (rs := [5]) (by kernel_rfl) (by simp) ?_
              refine (AllReadyH.cons rfl (fun K hK => ?_) AllReadyH.nil)
              go_simp
              refine (l8Busy_any gb 13 nx pa pc ps _ _ hlp _ ⟨FG.out.c 13 _ rfl, FG.out.c 14 _ rfl⟩ ((HP.out.below FB.out (Nat.le_refl _)).mono FB.out.size)).mono ?_
              rintro e v_11 ⟨rfl, hb⟩
              have FG : Hid (Blk v_11 gb (gvs h (.slice da ds.length dc) nx (.slice pa ps.length pc) tk rc)) := FG.out.below hb FG.out.lt
              have FB : Hid (Below w.heap.size w v_11) := FB.out.trans (hb.mono FB.out.size)
              clear hb
              have m14 := FG.out.c 14 _ rfl
              try dsimp only
              refine hK.out _ _ (by (try dsimp only); first | exact ⟨m14⟩ | go_keep) (fun hHeld => ?_)
              clear hK K
              try simp only [Act.put, List.getElem_toArray, List.getElem_cons_succ, List.getElem_cons_zero, List.setIfInBounds_toArray, List.set_cons_zero, List.set_cons_succ]
              refine wpAnyH_ready (rs := [11]) (by kernel_rfl) (by simp) ?_
              refine (AllReadyH.cons rfl (fun K hK => ?_) AllReadyH.nil)
              go_simp
              refine (l8Busy_any gb 13 nx pa pc ps _ _ hlp _ ⟨FG.out.c 13 _ rfl, FG.out.c 14 _ rfl⟩ ((HP.out.below FB.out (Nat.le_refl _)).mono FB.out.size)).mono ?_
              rintro e v_12 ⟨rfl, hb⟩
              have FG : Hid (Blk v_12 gb (gvs h (.slice da ds.length dc) nx (.slice pa ps.length pc) tk rc)) := FG.out.below hb FG.out.lt
              have FB : Hid (Below w.heap.size w v_12) := FB.out.trans (hb.mono FB.out.size)
              clear hb
              have m14 := FG.out.c 14 _ rfl
              try dsimp only
              refine hK.out _ _ (by (try dsimp only); first | exact ⟨m14⟩ | go_keep) (fun hHeld => ?_)
              clear hK K
              try simp only [Act.put, List.getElem_toArray, List.getElem_cons_succ, List.getElem_cons_zero, List.setIfInBounds_toArray, List.set_cons_zero, List.set_cons_succ]
              refine wpAnyH_take (i := 12) (v := _) rfl (by kernel_rfl) (by kernel_rfl) (by kernel_rfl) (fun _ _ _ h => h) (Or.inl ⟨by kernel_rfl, by (intro wx hSw; (try dsimp only at hSw); go_simp <;> with_reducible rfl)⟩) (by assumption) ?_
              try simp only [Act.put, List.getElem_toArray, List.getElem_cons_succ, List.getElem_cons_zero, List.setIfInBounds_toArray, List.set_cons_zero, List.set_cons_succ]
              refine wpAnyH_done (by kernel_rfl) ?_ _
              go_wp2_with fail
              go_roundw
              case rel => ((repeat apply Exists.intro); exact ⟨⟨s + 1, by simp, by omega, HT.out.1, HT.out.2, FG.out, FB.out⟩, rfl⟩)
              case measure => simp [intOf]; omega
          · have es : s = ds.length := by omega
            subst es
            go_wp2_with fail
            go_roundw
            case rel => exact ⟨2, by simp, by omega, rfl, rfl, FG.out, FB.out⟩
            case measure => simp [intOf]
      · subst q
        go_wp2_with fail
        exact bodyPost_ret (v := .tuple #[.int .i64 (asgK ps 0 ds.length 2).1, .int .i64 (asgK ps 0 ds.length 2).2]) (by simp [results, Try.results52, go_sem]) rfl ⟨rfl, FB.out⟩
  · subst z
    have d : decide (h.fl ≤ f + t) = true := decide_eq_true (by unfold Hs.pref at hp; split at hp <;> omega)
    clear hp
    go_enter Try.func52, Try.ntmps52
    go_wp2_with fail
    clear x0 d
    go_loopw [9, 10, 11] (fun bb cc kk wr => ∃ k : Nat, kk = .int .i64 k ∧ k ≤ 2 ∧ bb = .int .i64 (asgK ps 1 ds.length k).1 ∧ cc = .int .i64 (asgK ps 1 ds.length k).2 ∧ Blk wr gb (gvs h (.slice da ds.length dc) nx (.slice pa ps.length pc) tk rc) ∧ Below w.heap.size w wr) (fun _ _ kk _ => 2 - (intOf kk).toNat)
    case atStart => exact ⟨0, rfl, by omega, rfl, rfl, FG.out, FB.out⟩
    case round =>
      obtain ⟨k, rfl, hk, rfl, rfl, h0, h1⟩ := hrel
      have FG : Hid (Blk wr gb (gvs h (.slice da ds.length dc) nx (.slice pa ps.length pc) tk rc)) := h0
      have FB : Hid (Below w.heap.size w wr) := h1
      clear h0 h1
      have kc : k = 0 ∨ k = 1 ∨ k = 2 := by omega
      rcases kc with q | q | q
      · subst q
        have x12 := FG.out.c 12 _ rfl
        go_wp2_with fail
        go_loopw [9, 10, 13] (fun bb cc ss wr => ∃ s : Nat, ss = .int .i64 s ∧ s ≤ ds.length ∧ bb = .int .i64 (asgRow ps 1 (0, 1) s).1 ∧ cc = .int .i64 (asgRow ps 1 (0, 1) s).2 ∧ Blk wr gb (gvs h (.slice da ds.length dc) nx (.slice pa ps.length pc) tk rc) ∧ Below w.heap.size w wr) (fun _ _ ss _ => ds.length - (intOf ss).toNat)
        case atStart => exact ⟨0, rfl, by omega, rfl, rfl, FG.out, FB.out⟩
        case round =>
          obtain ⟨s, rfl, hs, rfl, rfl, h0, h1⟩ := hrel
          have FG : Hid (Blk wr gb (gvs h (.slice da ds.length dc) nx (.slice pa ps.length pc) tk rc)) := h0
          have FB : Hid (Below w.heap.size w wr) := h1
          clear h0 h1
          have x12 := FG.out.c 12 _ rfl
          by_cases hlt : s < ds.length
          · obtain ⟨x, hx⟩ : ∃ x, (asgRow ps 1 (0, 1) s).1 = x := ⟨_, rfl⟩
            obtain ⟨y, hy⟩ : ∃ y, (asgRow ps 1 (0, 1) s).2 = y := ⟨_, rfl⟩
            have HX := asgRow_next hx hy
            rw [hx, hy]
            clear hx hy
            by_cases c : busy ps s 1 < busy ps x y
            · have lt : decide (busy ps s 1 < busy ps x y) = true := decide_eq_true c
              have HT : Hid (Value.int .i64 (s : Int) = .int .i64 (asgRow ps 1 (0, 1) (s + 1)).1 ∧ Value.int .i64 1 = .int .i64 (asgRow ps 1 (0, 1) (s + 1)).2) := by rw [HX, if_pos c]; exact ⟨rfl, rfl⟩
              clear HX c
              go_wp2_with fail
              have FG : Hid (Blk wr.drew gb (gvs h (.slice da ds.length dc) nx (.slice pa ps.length pc) tk rc)) := FG.out.below (Below.refl _ _).drew FG.out.lt
              have FB : Hid (Below w.heap.size w wr.drew) := FB.out.drew
              have m14 := FG.out.c 14 _ rfl
              refine wp_region_held_drew (S := (fun w'' => w''.cell? ⟨gb, 14, none⟩ = some (.slice pa ps.length pc))) (by kernel_rfl) (by (try dsimp only); first | exact ⟨m14⟩ | go_keep) (fun hHeld => ?_)
              obtain ⟨v_13, hw1⟩ : ∃ v_13, v_13 = wr.drew := ⟨_, rfl⟩
              have FG : Hid (Blk v_13 gb (gvs h (.slice da ds.length dc) nx (.slice pa ps.length pc) tk rc)) := by rw [hw1]; exact FG.out
              have FB : Hid (Below w.heap.size w v_13) := by rw [hw1]; exact FB.out
              rw [← hw1] at hHeld ⊢
              clear hw1
              have m14 := FG.out.c 14 _ rfl
              refine wpAnyH_take (i := 0) (v := _) rfl (by kernel_rfl) (by kernel_rfl) (by kernel_rfl) (fun _ _ _ h => h) (Or.inl ⟨by kernel_rfl, by (intro wx hSw; (try dsimp only at hSw); go_simp <;> with_reducible rfl)⟩) (by assumption) ?_
              try simp only [Act.put, List.getElem_toArray, List.getElem_cons_succ, List.getElem_cons_zero, List.setIfInBounds_toArray, List.set_cons_zero, List.set_cons_succ]
              refine wpAnyH_take (i := 1) (v := _) rfl (by kernel_rfl) (by kernel_rfl) (by kernel_rfl) (fun _ _ _ h => h) (Or.inl ⟨by kernel_rfl, by (intro wx hSw; (try dsimp only at hSw); go_simp <;> with_reducible rfl)⟩) (by assumption) ?_
              try simp only [Act.put, List.getElem_toArray, List.getElem_cons_succ, List.getElem_cons_zero, List.setIfInBounds_toArray, List.set_cons_zero, List.set_cons_succ]
              refine wpAnyH_take (i := 2) (v := _) rfl (by kernel_rfl) (by kernel_rfl) (by kernel_rfl) (fun _ _ _ h => h) (Or.inl ⟨by kernel_rfl, by (intro wx hSw; (try dsimp only at hSw); go_simp <;> with_reducible rfl)⟩) (by assumption) ?_
              try simp only [Act.put, List.getElem_toArray, List.getElem_cons_succ, List.getElem_cons_zero, List.setIfInBounds_toArray, List.set_cons_zero, List.set_cons_succ]
              refine wpAnyH_take (i := 3) (v := _) rfl (by kernel_rfl) (by kernel_rfl) (by kernel_rfl) (fun _ _ _ h => h) (Or.inl ⟨by kernel_rfl, by (intro wx hSw; (try dsimp only at hSw); go_simp <;> with_reducible rfl)⟩) (by assumption) ?_
              try simp only [Act.put, List.getElem_toArray, List.getElem_cons_succ, List.getElem_cons_zero, List.setIfInBounds_toArray, List.set_cons_zero, List.set_cons_succ]
              refine wpAnyH_take (i := 4) (v := _) rfl (by kernel_rfl) (by kernel_rfl) (by kernel_rfl) (fun _ _ _ h => h) (Or.inl ⟨by kernel_rfl, by (intro wx hSw; (try dsimp only at hSw); go_simp <;> with_reducible rfl)⟩) (by assumption) ?_
              try simp only [Act.put, List.getElem_toArray, List.getElem_cons_succ, List.getElem_cons_zero, List.setIfInBounds_toArray, List.set_cons_zero, List.set_cons_succ]
              refine wpAnyH_take (i := 6) (v := _) rfl (by kernel_rfl) (by kernel_rfl) (by kernel_rfl) (fun _ _ _ h => h) (Or.inl ⟨by kernel_rfl, by (intro wx hSw; (try dsimp only at hSw); go_simp <;> with_reducible rfl)⟩) (by assumption) ?_
              try simp only [Act.put, List.getElem_toArray, List.getElem_cons_succ, List.getElem_cons_zero, List.setIfInBounds_toArray, List.set_cons_zero, List.set_cons_succ]
              refine wpAnyH_take (i := 7) (v := _) rfl (by kernel_rfl) (by kernel_rfl) (by kernel_rfl) (fun _ _ _ h => h) (Or.inl ⟨by kernel_rfl, by (intro wx hSw; (try dsimp only at hSw); go_simp <;> with_reducible rfl)⟩) (by assumption) ?_
              try simp only [Act.put, List.getElem_toArray, List.getElem_cons_succ, List.getElem_cons_zero, List.setIfInBounds_toArray, List.set_cons_zero, List.set_cons_succ]
              refine wpAnyH_take (i := 8) (v := _) rfl (by kernel_rfl) (by kernel_rfl) (by kernel_rfl) (fun _ _ _ h => h) (Or.inl ⟨by kernel_rfl, by (intro wx hSw; (try dsimp only at hSw); go_simp <;> with_reducible rfl)⟩) (by assumption) ?_
              try simp only [Act.put, List.getElem_toArray, List.getElem_cons_succ, List.getElem_cons_zero, List.setIfInBounds_toArray, List.set_cons_zero, List.set_cons_succ]
              refine wpAnyH_take (i := 9) (v := _) rfl (by kernel_rfl) (by kernel_rfl) (by kernel_rfl) (fun _ _ _ h => h) (Or.inl ⟨by kernel_rfl, by (intro wx hSw; (try dsimp only at hSw); go_simp <;> with_reducible rfl)⟩) (by assumption) ?_
              try simp only [Act.put, List.getElem_toArray, List.getElem_cons_succ, List.getElem_cons_zero, List.setIfInBounds_toArray, List.set_cons_zero, List.set_cons_succ]
              refine wpAnyH_take (i := 10) (v := _) rfl (by kernel_rfl) (by kernel_rfl) (by kernel_rfl) (fun _ _ _ h => h) (Or.inl ⟨by kernel_rfl, by (intro wx hSw; (try dsimp only at hSw); go_simp <;> with_reducible rfl)⟩) (by assumption) ?_
              try simp only [Act.put, List.getElem_toArray, List.getElem_cons_succ, List.getElem_cons_zero, List.setIfInBounds_toArray, List.set_cons_zero, List.set_cons_succ]
              refine wpAnyH_ready (rs := [5]) (by kernel_rfl) (by simp) ?_
              refine (AllReadyH.cons rfl (fun K hK => ?_) AllReadyH.nil)
              go_simp
              refine (l8Busy_any gb 13 nx pa pc ps _ _ hlp _ ⟨FG.out.c 13 _ rfl, FG.out.c 14 _ rfl⟩ ((HP.out.below FB.out (Nat.le_refl _)).mono FB.out.size)).mono ?_
              rintro e v_14 ⟨rfl, hb⟩
              have FG : Hid (Blk v_14 gb (gvs h (.slice da ds.length dc) nx (.slice pa ps.length pc) tk rc)) := FG.out.below hb FG.out.lt
              have FB : Hid (Below w.heap.size w v_14) := FB.out.trans (hb.mono FB.out.size)
              clear hb
              have m14 := FG.out.c 14 _ rfl
              try dsimp only
              refine hK.out _ _ (by (try dsimp only); first | exact ⟨m14⟩ | go_keep) (fun hHeld => ?_)
              clear hK K
              try simp only [Act.put, List.getElem_toArray, List.getElem_cons_succ, List.getElem_cons_zero, List.setIfInBounds_toArray, List.set_cons_zero, List.set_cons_succ]
              refine wpAnyH_ready (rs := [11]) (by kernel_rfl) (by simp) ?_
              refine (AllReadyH.cons rfl (fun K hK => ?_) AllReadyH.nil)
              go_simp
              refine (l8Busy_any gb 13 nx pa pc ps _ _ hlp _ ⟨FG.out.c 13 _ rfl, FG.out.c 14 _ rfl⟩ ((HP.out.below FB.out (Nat.le_refl _)).mono FB.out.size)).mono ?_
              rintro e v_15 ⟨rfl, hb⟩
              have FG : Hid (Blk v_15 gb (gvs h (.slice da ds.length dc) nx (.slice pa ps.length pc) tk rc)) := FG.out.below hb FG.out.lt
              have FB : Hid (Below w.heap.size w v_15) := FB.out.trans (hb.mono FB.out.size)
              clear hb
              have m14 := FG.out.c 14 _ rfl
              try dsimp only
              refine hK.out _ _ (by (try dsimp only); first | exact ⟨m14⟩ | go_keep) (fun hHeld => ?_)
              clear hK K
              try simp only [Act.put, List.getElem_toArray, List.getElem_cons_succ, List.getElem_cons_zero, List.setIfInBounds_toArray, List.set_cons_zero, List.set_cons_succ]
              refine wpAnyH_take (i := 12) (v := _) rfl (by kernel_rfl) (by kernel_rfl) (by kernel_rfl) (fun _ _ _ h => h) (Or.inl ⟨by kernel_rfl, by (intro wx hSw; (try dsimp only at hSw); go_simp <;> with_reducible rfl)⟩) (by assumption) ?_
              try simp only [Act.put, List.getElem_toArray, List.getElem_cons_succ, List.getElem_cons_zero, List.setIfInBounds_toArray, List.set_cons_zero, List.set_cons_succ]
              refine wpAnyH_done (by kernel_rfl) ?_ _
              go_wp2_with fail
              go_roundw
              case rel => ((repeat apply Exists.intro); exact ⟨⟨s + 1, by simp, by omega, HT.out.1, HT.out.2, FG.out, FB.out⟩, rfl⟩)
              case measure => simp [intOf]; omega
            · have lt : decide (busy ps s 1 < busy ps x y) = false := decide_eq_false c
              have HT : Hid (Value.int .i64 x = .int .i64 (asgRow ps 1 (0, 1) (s + 1)).1 ∧ Value.int .i64 y = .int .i64 (asgRow ps 1 (0, 1) (s + 1)).2) := by rw [HX, if_neg c]; exact ⟨rfl, rfl⟩
              clear HX c
              go_wp2_with fail
              have FG : Hid (Blk wr.drew gb (gvs h (.slice da ds.length dc) nx (.slice pa ps.length pc) tk rc)) := FG.out.below (Below.refl _ _).drew FG.out.lt
              have FB : Hid (Below w.heap.size w wr.drew) := FB.out.drew
              have m14 := FG.out.c 14 _ rfl
              refine wp_region_held_drew (S := (fun w'' => w''.cell? ⟨gb, 14, none⟩ = some (.slice pa ps.length pc))) (by kernel_rfl) (by (try dsimp only); first | exact ⟨m14⟩ | go_keep) (fun hHeld => ?_)
              obtain ⟨v_16, hw1⟩ : ∃ v_16, v_16 = wr.drew := ⟨_, rfl⟩
              have FG : Hid (Blk v_16 gb (gvs h (.slice da ds.length dc) nx (.slice pa ps.length pc) tk rc)) := by rw [hw1]; exact FG.out
              have FB : Hid (Below w.heap.size w v_16) := by rw [hw1]; exact FB.out
              rw [← hw1] at hHeld ⊢
              clear hw1
              have m14 := FG.out.c 14 _ rfl
              refine wpAnyH_take (i := 0) (v := _) rfl (by kernel_rfl) (by kernel_rfl) (by kernel_rfl) (fun _ _ _ h => h) (Or.inl ⟨by kernel_rfl, by (intro wx hSw; (try dsimp only at hSw); go_simp <;> with_reducible rfl)⟩) (by assumption) ?_
              try simp only [Act.put, List.getElem_toArray, List.getElem_cons_succ, List.getElem_cons_zero, List.setIfInBounds_toArray, List.set_cons_zero, List.set_cons_succ]
              refine wpAnyH_take (i := 1) (v := _) rfl (by kernel_rfl) (by kernel_rfl) (by kernel_rfl) (fun _ _ _ h => h) (Or.inl ⟨by kernel_rfl, by (intro wx hSw; (try dsimp only at hSw); go_simp <;> with_reducible rfl)⟩) (by assumption) ?_
              try simp only [Act.put, List.getElem_toArray, List.getElem_cons_succ, List.getElem_cons_zero, List.setIfInBounds_toArray, List.set_cons_zero, List.set_cons_succ]
              refine wpAnyH_take (i := 2) (v := _) rfl (by kernel_rfl) (by kernel_rfl) (by kernel_rfl) (fun _ _ _ h => h) (Or.inl ⟨by kernel_rfl, by (intro wx hSw; (try dsimp only at hSw); go_simp <;> with_reducible rfl)⟩) (by assumption) ?_
              try simp only [Act.put, List.getElem_toArray, List.getElem_cons_succ, List.getElem_cons_zero, List.setIfInBounds_toArray, List.set_cons_zero, List.set_cons_succ]
              refine wpAnyH_take (i := 3) (v := _) rfl (by kernel_rfl) (by kernel_rfl) (by kernel_rfl) (fun _ _ _ h => h) (Or.inl ⟨by kernel_rfl, by (intro wx hSw; (try dsimp only at hSw); go_simp <;> with_reducible rfl)⟩) (by assumption) ?_
              try simp only [Act.put, List.getElem_toArray, List.getElem_cons_succ, List.getElem_cons_zero, List.setIfInBounds_toArray, List.set_cons_zero, List.set_cons_succ]
              refine wpAnyH_take (i := 4) (v := _) rfl (by kernel_rfl) (by kernel_rfl) (by kernel_rfl) (fun _ _ _ h => h) (Or.inl ⟨by kernel_rfl, by (intro wx hSw; (try dsimp only at hSw); go_simp <;> with_reducible rfl)⟩) (by assumption) ?_
              try simp only [Act.put, List.getElem_toArray, List.getElem_cons_succ, List.getElem_cons_zero, List.setIfInBounds_toArray, List.set_cons_zero, List.set_cons_succ]
              refine wpAnyH_take (i := 6) (v := _) rfl (by kernel_rfl) (by kernel_rfl) (by kernel_rfl) (fun _ _ _ h => h) (Or.inl ⟨by kernel_rfl, by (intro wx hSw; (try dsimp only at hSw); go_simp <;> with_reducible rfl)⟩) (by assumption) ?_
              try simp only [Act.put, List.getElem_toArray, List.getElem_cons_succ, List.getElem_cons_zero, List.setIfInBounds_toArray, List.set_cons_zero, List.set_cons_succ]
              refine wpAnyH_take (i := 7) (v := _) rfl (by kernel_rfl) (by kernel_rfl) (by kernel_rfl) (fun _ _ _ h => h) (Or.inl ⟨by kernel_rfl, by (intro wx hSw; (try dsimp only at hSw); go_simp <;> with_reducible rfl)⟩) (by assumption) ?_
              try simp only [Act.put, List.getElem_toArray, List.getElem_cons_succ, List.getElem_cons_zero, List.setIfInBounds_toArray, List.set_cons_zero, List.set_cons_succ]
              refine wpAnyH_take (i := 8) (v := _) rfl (by kernel_rfl) (by kernel_rfl) (by kernel_rfl) (fun _ _ _ h => h) (Or.inl ⟨by kernel_rfl, by (intro wx hSw; (try dsimp only at hSw); go_simp <;> with_reducible rfl)⟩) (by assumption) ?_
              try simp only [Act.put, List.getElem_toArray, List.getElem_cons_succ, List.getElem_cons_zero, List.setIfInBounds_toArray, List.set_cons_zero, List.set_cons_succ]
              refine wpAnyH_take (i := 9) (v := _) rfl (by kernel_rfl) (by kernel_rfl) (by kernel_rfl) (fun _ _ _ h => h) (Or.inl ⟨by kernel_rfl, by (intro wx hSw; (try dsimp only at hSw); go_simp <;> with_reducible rfl)⟩) (by assumption) ?_
              try simp only [Act.put, List.getElem_toArray, List.getElem_cons_succ, List.getElem_cons_zero, List.setIfInBounds_toArray, List.set_cons_zero, List.set_cons_succ]
              refine wpAnyH_take (i := 10) (v := _) rfl (by kernel_rfl) (by kernel_rfl) (by kernel_rfl) (fun _ _ _ h => h) (Or.inl ⟨by kernel_rfl, by (intro wx hSw; (try dsimp only at hSw); go_simp <;> with_reducible rfl)⟩) (by assumption) ?_
              try simp only [Act.put, List.getElem_toArray, List.getElem_cons_succ, List.getElem_cons_zero, List.setIfInBounds_toArray, List.set_cons_zero, List.set_cons_succ]
              refine wpAnyH_ready (rs := [5]) (by kernel_rfl) (by simp) ?_
              refine (AllReadyH.cons rfl (fun K hK => ?_) AllReadyH.nil)
              go_simp
              refine (l8Busy_any gb 13 nx pa pc ps _ _ hlp _ ⟨FG.out.c 13 _ rfl, FG.out.c 14 _ rfl⟩ ((HP.out.below FB.out (Nat.le_refl _)).mono FB.out.size)).mono ?_
              rintro e v_17 ⟨rfl, hb⟩
              have FG : Hid (Blk v_17 gb (gvs h (.slice da ds.length dc) nx (.slice pa ps.length pc) tk rc)) := FG.out.below hb FG.out.lt
              have FB : Hid (Below w.heap.size w v_17) := FB.out.trans (hb.mono FB.out.size)
              clear hb
              have m14 := FG.out.c 14 _ rfl
              try dsimp only
              refine hK.out _ _ (by (try dsimp only); first | exact ⟨m14⟩ | go_keep) (fun hHeld => ?_)
              clear hK K
              try simp only [Act.put, List.getElem_toArray, List.getElem_cons_succ, List.getElem_cons_zero, List.setIfInBounds_toArray, List.set_cons_zero, List.set_cons_succ]
              refine wpAnyH_ready (rs := [11]) (by kernel_rfl) (by simp) ?_
              refine (AllReadyH.cons rfl (fun K hK => ?_) AllReadyH.nil)
              go_simp
              refine (l8Busy_any gb 13 nx pa pc ps _ _ hlp _ ⟨FG.out.c 13 _ rfl, FG.out.c 14 _ rfl⟩ ((HP.out.below FB.out (Nat.le_refl _)).mono FB.out.size)).mono ?_
              rintro e v_18 ⟨rfl, hb⟩
              have FG : Hid (Blk v_18 gb (gvs h (.slice da ds.length dc) nx (.slice pa ps.length pc) tk rc)) := FG.out.below hb FG.out.lt
              have FB : Hid (Below w.heap.size w v_18) := FB.out.trans (hb.mono FB.out.size)
              clear hb
              have m14 := FG.out.c 14 _ rfl
              try dsimp only
              refine hK.out _ _ (by (try dsimp only); first | exact ⟨m14⟩ | go_keep) (fun hHeld => ?_)
              clear hK K
              try simp only [Act.put, List.getElem_toArray, List.getElem_cons_succ, List.getElem_cons_zero, List.setIfInBounds_toArray, List.set_cons_zero, List.set_cons_succ]
              refine wpAnyH_take (i := 12) (v := _) rfl (by kernel_rfl) (by kernel_rfl) (by kernel_rfl) (fun _ _ _ h => h) (Or.inl ⟨by kernel_rfl, by (intro wx hSw; (try dsimp only at hSw); go_simp <;> with_reducible rfl)⟩) (by assumption) ?_
              try simp only [Act.put, List.getElem_toArray, List.getElem_cons_succ, List.getElem_cons_zero, List.setIfInBounds_toArray, List.set_cons_zero, List.set_cons_succ]
              refine wpAnyH_done (by kernel_rfl) ?_ _
              go_wp2_with fail
              go_roundw
              case rel => ((repeat apply Exists.intro); exact ⟨⟨s + 1, by simp, by omega, HT.out.1, HT.out.2, FG.out, FB.out⟩, rfl⟩)
              case measure => simp [intOf]; omega
          · have es : s = ds.length := by omega
            subst es
            go_wp2_with fail
            go_roundw
            case rel => exact ⟨1, by simp, by omega, rfl, rfl, FG.out, FB.out⟩
            case measure => simp [intOf]
      · subst q
        have x12 := FG.out.c 12 _ rfl
        go_wp2_with fail
        go_loopw [9, 10, 13] (fun bb cc ss wr => ∃ s : Nat, ss = .int .i64 s ∧ s ≤ ds.length ∧ bb = .int .i64 (asgRow ps 0 (asgRow ps 1 (0, 1) ds.length) s).1 ∧ cc = .int .i64 (asgRow ps 0 (asgRow ps 1 (0, 1) ds.length) s).2 ∧ Blk wr gb (gvs h (.slice da ds.length dc) nx (.slice pa ps.length pc) tk rc) ∧ Below w.heap.size w wr) (fun _ _ ss _ => ds.length - (intOf ss).toNat)
        case atStart => exact ⟨0, rfl, by omega, rfl, rfl, FG.out, FB.out⟩
        case round =>
          obtain ⟨s, rfl, hs, rfl, rfl, h0, h1⟩ := hrel
          have FG : Hid (Blk wr gb (gvs h (.slice da ds.length dc) nx (.slice pa ps.length pc) tk rc)) := h0
          have FB : Hid (Below w.heap.size w wr) := h1
          clear h0 h1
          have x12 := FG.out.c 12 _ rfl
          by_cases hlt : s < ds.length
          · obtain ⟨x, hx⟩ : ∃ x, (asgRow ps 0 (asgRow ps 1 (0, 1) ds.length) s).1 = x := ⟨_, rfl⟩
            obtain ⟨y, hy⟩ : ∃ y, (asgRow ps 0 (asgRow ps 1 (0, 1) ds.length) s).2 = y := ⟨_, rfl⟩
            have HX := asgRow_next hx hy
            rw [hx, hy]
            clear hx hy
            by_cases c : busy ps s 0 < busy ps x y
            · have lt : decide (busy ps s 0 < busy ps x y) = true := decide_eq_true c
              have HT : Hid (Value.int .i64 (s : Int) = .int .i64 (asgRow ps 0 (asgRow ps 1 (0, 1) ds.length) (s + 1)).1 ∧ Value.int .i64 0 = .int .i64 (asgRow ps 0 (asgRow ps 1 (0, 1) ds.length) (s + 1)).2) := by rw [HX, if_pos c]; exact ⟨rfl, rfl⟩
              clear HX c
              go_wp2_with fail
              have FG : Hid (Blk wr.drew gb (gvs h (.slice da ds.length dc) nx (.slice pa ps.length pc) tk rc)) := FG.out.below (Below.refl _ _).drew FG.out.lt
              have FB : Hid (Below w.heap.size w wr.drew) := FB.out.drew
              have m14 := FG.out.c 14 _ rfl
              refine wp_region_held_drew (S := (fun w'' => w''.cell? ⟨gb, 14, none⟩ = some (.slice pa ps.length pc))) (by kernel_rfl) (by (try dsimp only); first | exact ⟨m14⟩ | go_keep) (fun hHeld => ?_)
              obtain ⟨v_19, hw1⟩ : ∃ v_19, v_19 = wr.drew := ⟨_, rfl⟩
              have FG : Hid (Blk v_19 gb (gvs h (.slice da ds.length dc) nx (.slice pa ps.length pc) tk rc)) := by rw [hw1]; exact FG.out
              have FB : Hid (Below w.heap.size w v_19) := by rw [hw1]; exact FB.out
              rw [← hw1] at hHeld ⊢
              clear hw1
              have m14 := FG.out.c 14 _ rfl
              refine wpAnyH_take (i := 0) (v := _) rfl (by kernel_rfl) (by kernel_rfl) (by kernel_rfl) (fun _ _ _ h => h) (Or.inl ⟨by kernel_rfl, by (intro wx hSw; (try dsimp only at hSw); go_simp <;> with_reducible rfl)⟩) (by assumption) ?_
              try simp only [Act.put, List.getElem_toArray, List.getElem_cons_succ, List.getElem_cons_zero, List.setIfInBounds_toArray, List.set_cons_zero, List.set_cons_succ]
              refine wpAnyH_take (i := 1) (v := _) rfl (by kernel_rfl) (by kernel_rfl) (by kernel_rfl) (fun _ _ _ h => h) (Or.inl ⟨by kernel_rfl, by (intro wx hSw; (try dsimp only at hSw); go_simp <;> with_reducible rfl)⟩) (by assumption) ?_
              try simp only [Act.put, List.getElem_toArray, List.getElem_cons_succ, List.getElem_cons_zero, List.setIfInBounds_toArray, List.set_cons_zero, List.set_cons_succ]
              refine wpAnyH_take (i := 2) (v := _) rfl (by kernel_rfl) (by kernel_rfl) (by kernel_rfl) (fun _ _ _ h => h) (Or.inl ⟨by kernel_rfl, by (intro wx hSw; (try dsimp only at hSw); go_simp <;> with_reducible rfl)⟩) (by assumption) ?_
              try simp only [Act.put, List.getElem_toArray, List.getElem_cons_succ, List.getElem_cons_zero, List.setIfInBounds_toArray, List.set_cons_zero, List.set_cons_succ]
              refine wpAnyH_take (i := 3) (v := _) rfl (by kernel_rfl) (by kernel_rfl) (by kernel_rfl) (fun _ _ _ h => h) (Or.inl ⟨by kernel_rfl, by (intro wx hSw; (try dsimp only at hSw); go_simp <;> with_reducible rfl)⟩) (by assumption) ?_
              try simp only [Act.put, List.getElem_toArray, List.getElem_cons_succ, List.getElem_cons_zero, List.setIfInBounds_toArray, List.set_cons_zero, List.set_cons_succ]
              refine wpAnyH_take (i := 4) (v := _) rfl (by kernel_rfl) (by kernel_rfl) (by kernel_rfl) (fun _ _ _ h => h) (Or.inl ⟨by kernel_rfl, by (intro wx hSw; (try dsimp only at hSw); go_simp <;> with_reducible rfl)⟩) (by assumption) ?_
              try simp only [Act.put, List.getElem_toArray, List.getElem_cons_succ, List.getElem_cons_zero, List.setIfInBounds_toArray, List.set_cons_zero, List.set_cons_succ]
              refine wpAnyH_take (i := 6) (v := _) rfl (by kernel_rfl) (by kernel_rfl) (by kernel_rfl) (fun _ _ _ h => h) (Or.inl ⟨by kernel_rfl, by (intro wx hSw; (try dsimp only at hSw); go_simp <;> with_reducible rfl)⟩) (by assumption) ?_
              try simp only [Act.put, List.getElem_toArray, List.getElem_cons_succ, List.getElem_cons_zero, List.setIfInBounds_toArray, List.set_cons_zero, List.set_cons_succ]
              refine wpAnyH_take (i := 7) (v := _) rfl (by kernel_rfl) (by kernel_rfl) (by kernel_rfl) (fun _ _ _ h => h) (Or.inl ⟨by kernel_rfl, by (intro wx hSw; (try dsimp only at hSw); go_simp <;> with_reducible rfl)⟩) (by assumption) ?_
              try simp only [Act.put, List.getElem_toArray, List.getElem_cons_succ, List.getElem_cons_zero, List.setIfInBounds_toArray, List.set_cons_zero, List.set_cons_succ]
              refine wpAnyH_take (i := 8) (v := _) rfl (by kernel_rfl) (by kernel_rfl) (by kernel_rfl) (fun _ _ _ h => h) (Or.inl ⟨by kernel_rfl, by (intro wx hSw; (try dsimp only at hSw); go_simp <;> with_reducible rfl)⟩) (by assumption) ?_
              try simp only [Act.put, List.getElem_toArray, List.getElem_cons_succ, List.getElem_cons_zero, List.setIfInBounds_toArray, List.set_cons_zero, List.set_cons_succ]
              refine wpAnyH_take (i := 9) (v := _) rfl (by kernel_rfl) (by kernel_rfl) (by kernel_rfl) (fun _ _ _ h => h) (Or.inl ⟨by kernel_rfl, by (intro wx hSw; (try dsimp only at hSw); go_simp <;> with_reducible rfl)⟩) (by assumption) ?_
              try simp only [Act.put, List.getElem_toArray, List.getElem_cons_succ, List.getElem_cons_zero, List.setIfInBounds_toArray, List.set_cons_zero, List.set_cons_succ]
              refine wpAnyH_take (i := 10) (v := _) rfl (by kernel_rfl) (by kernel_rfl) (by kernel_rfl) (fun _ _ _ h => h) (Or.inl ⟨by kernel_rfl, by (intro wx hSw; (try dsimp only at hSw); go_simp <;> with_reducible rfl)⟩) (by assumption) ?_
              try simp only [Act.put, List.getElem_toArray, List.getElem_cons_succ, List.getElem_cons_zero, List.setIfInBounds_toArray, List.set_cons_zero, List.set_cons_succ]
              refine wpAnyH_ready (rs := [5]) (by kernel_rfl) (by simp) ?_
              refine (AllReadyH.cons rfl (fun K hK => ?_) AllReadyH.nil)
              go_simp
              refine (l8Busy_any gb 13 nx pa pc ps _ _ hlp _ ⟨FG.out.c 13 _ rfl, FG.out.c 14 _ rfl⟩ ((HP.out.below FB.out (Nat.le_refl _)).mono FB.out.size)).mono ?_
              rintro e v_20 ⟨rfl, hb⟩
              have FG : Hid (Blk v_20 gb (gvs h (.slice da ds.length dc) nx (.slice pa ps.length pc) tk rc)) := FG.out.below hb FG.out.lt
              have FB : Hid (Below w.heap.size w v_20) := FB.out.trans (hb.mono FB.out.size)
              clear hb
              have m14 := FG.out.c 14 _ rfl
              try dsimp only
              refine hK.out _ _ (by (try dsimp only); first | exact ⟨m14⟩ | go_keep) (fun hHeld => ?_)
              clear hK K
              try simp only [Act.put, List.getElem_toArray, List.getElem_cons_succ, List.getElem_cons_zero, List.setIfInBounds_toArray, List.set_cons_zero, List.set_cons_succ]
              refine wpAnyH_ready (rs := [11]) (by kernel_rfl) (by simp) ?_
              refine (AllReadyH.cons rfl (fun K hK => ?_) AllReadyH.nil)
              go_simp
              refine (l8Busy_any gb 13 nx pa pc ps _ _ hlp _ ⟨FG.out.c 13 _ rfl, FG.out.c 14 _ rfl⟩ ((HP.out.below FB.out (Nat.le_refl _)).mono FB.out.size)).mono ?_
              rintro e v_21 ⟨rfl, hb⟩
              have FG : Hid (Blk v_21 gb (gvs h (.slice da ds.length dc) nx (.slice pa ps.length pc) tk rc)) := FG.out.below hb FG.out.lt
              have FB : Hid (Below w.heap.size w v_21) := FB.out.trans (hb.mono FB.out.size)
              clear hb
              have m14 := FG.out.c 14 _ rfl
              try dsimp only
              refine hK.out _ _ (by (try dsimp only); first | exact ⟨m14⟩ | go_keep) (fun hHeld => ?_)
              clear hK K
              try simp only [Act.put, List.getElem_toArray, List.getElem_cons_succ, List.getElem_cons_zero, List.setIfInBounds_toArray, List.set_cons_zero, List.set_cons_succ]
              refine wpAnyH_take (i := 12) (v := _) rfl (by kernel_rfl) (by kernel_rfl) (by kernel_rfl) (fun _ _ _ h => h) (Or.inl ⟨by kernel_rfl, by (intro wx hSw; (try dsimp only at hSw); go_simp <;> with_reducible rfl)⟩) (by assumption) ?_
              try simp only [Act.put, List.getElem_toArray, List.getElem_cons_succ, List.getElem_cons_zero, List.setIfInBounds_toArray, List.set_cons_zero, List.set_cons_succ]
              refine wpAnyH_done (by kernel_rfl) ?_ _
              go_wp2_with fail
              go_roundw
              case rel => ((repeat apply Exists.intro); exact ⟨⟨s + 1, by simp, by omega, HT.out.1, HT.out.2, FG.out, FB.out⟩, rfl⟩)
              case measure => simp [intOf]; omega
            · have lt : decide (busy ps s 0 < busy ps x y) = false := decide_eq_false c
              have HT : Hid (Value.int .i64 x = .int .i64 (asgRow ps 0 (asgRow ps 1 (0, 1) ds.length) (s + 1)).1 ∧ Value.int .i64 y = .int .i64 (asgRow ps 0 (asgRow ps 1 (0, 1) ds.length) (s + 1)).2) := by rw [HX, if_neg c]; exact ⟨rfl, rfl⟩
              clear HX c
              go_wp2_with fail
              have FG : Hid (Blk wr.drew gb (gvs h (.slice da ds.length dc) nx (.slice pa ps.length pc) tk rc)) := FG.out.below (Below.refl _ _).drew FG.out.lt
              have FB : Hid (Below w.heap.size w wr.drew) := FB.out.drew
              have m14 := FG.out.c 14 _ rfl
              refine wp_region_held_drew (S := (fun w'' => w''.cell? ⟨gb, 14, none⟩ = some (.slice pa ps.length pc))) (by kernel_rfl) (by (try dsimp only); first | exact ⟨m14⟩ | go_keep) (fun hHeld => ?_)
              obtain ⟨v_22, hw1⟩ : ∃ v_22, v_22 = wr.drew := ⟨_, rfl⟩
              have FG : Hid (Blk v_22 gb (gvs h (.slice da ds.length dc) nx (.slice pa ps.length pc) tk rc)) := by rw [hw1]; exact FG.out
              have FB : Hid (Below w.heap.size w v_22) := by rw [hw1]; exact FB.out
              rw [← hw1] at hHeld ⊢
              clear hw1
              have m14 := FG.out.c 14 _ rfl
              refine wpAnyH_take (i := 0) (v := _) rfl (by kernel_rfl) (by kernel_rfl) (by kernel_rfl) (fun _ _ _ h => h) (Or.inl ⟨by kernel_rfl, by (intro wx hSw; (try dsimp only at hSw); go_simp <;> with_reducible rfl)⟩) (by assumption) ?_
              try simp only [Act.put, List.getElem_toArray, List.getElem_cons_succ, List.getElem_cons_zero, List.setIfInBounds_toArray, List.set_cons_zero, List.set_cons_succ]
              refine wpAnyH_take (i := 1) (v := _) rfl (by kernel_rfl) (by kernel_rfl) (by kernel_rfl) (fun _ _ _ h => h) (Or.inl ⟨by kernel_rfl, by (intro wx hSw; (try dsimp only at hSw); go_simp <;> with_reducible rfl)⟩) (by assumption) ?_
              try simp only [Act.put, List.getElem_toArray, List.getElem_cons_succ, List.getElem_cons_zero, List.setIfInBounds_toArray, List.set_cons_zero, List.set_cons_succ]
              refine wpAnyH_take (i := 2) (v := _) rfl (by kernel_rfl) (by kernel_rfl) (by kernel_rfl) (fun _ _ _ h => h) (Or.inl ⟨by kernel_rfl, by (intro wx hSw; (try dsimp only at hSw); go_simp <;> with_reducible rfl)⟩) (by assumption) ?_
              try simp only [Act.put, List.getElem_toArray, List.getElem_cons_succ, List.getElem_cons_zero, List.setIfInBounds_toArray, List.set_cons_zero, List.set_cons_succ]
              refine wpAnyH_take (i := 3) (v := _) rfl (by kernel_rfl) (by kernel_rfl) (by kernel_rfl) (fun _ _ _ h => h) (Or.inl ⟨by kernel_rfl, by (intro wx hSw; (try dsimp only at hSw); go_simp <;> with_reducible rfl)⟩) (by assumption) ?_
              try simp only [Act.put, List.getElem_toArray, List.getElem_cons_succ, List.getElem_cons_zero, List.setIfInBounds_toArray, List.set_cons_zero, List.set_cons_succ]
              refine wpAnyH_take (i := 4) (v := _) rfl (by kernel_rfl) (by kernel_rfl) (by kernel_rfl) (fun _ _ _ h => h) (Or.inl ⟨by kernel_rfl, by (intro wx hSw; (try dsimp only at hSw); go_simp <;> with_reducible rfl)⟩) (by assumption) ?_
              try simp only [Act.put, List.getElem_toArray, List.getElem_cons_succ, List.getElem_cons_zero, List.setIfInBounds_toArray, List.set_cons_zero, List.set_cons_succ]
              refine wpAnyH_take (i := 6) (v := _) rfl (by kernel_rfl) (by kernel_rfl) (by kernel_rfl) (fun _ _ _ h => h) (Or.inl ⟨by kernel_rfl, by (intro wx hSw; (try dsimp only at hSw); go_simp <;> with_reducible rfl)⟩) (by assumption) ?_
              try simp only [Act.put, List.getElem_toArray, List.getElem_cons_succ, List.getElem_cons_zero, List.setIfInBounds_toArray, List.set_cons_zero, List.set_cons_succ]
              refine wpAnyH_take (i := 7) (v := _) rfl (by kernel_rfl) (by kernel_rfl) (by kernel_rfl) (fun _ _ _ h => h) (Or.inl ⟨by kernel_rfl, by (intro wx hSw; (try dsimp only at hSw); go_simp <;> with_reducible rfl)⟩) (by assumption) ?_
              try simp only [Act.put, List.getElem_toArray, List.getElem_cons_succ, List.getElem_cons_zero, List.setIfInBounds_toArray, List.set_cons_zero, List.set_cons_succ]
              refine wpAnyH_take (i := 8) (v := _) rfl (by kernel_rfl) (by kernel_rfl) (by kernel_rfl) (fun _ _ _ h => h) (Or.inl ⟨by kernel_rfl, by (intro wx hSw; (try dsimp only at hSw); go_simp <;> with_reducible rfl)⟩) (by assumption) ?_
              try simp only [Act.put, List.getElem_toArray, List.getElem_cons_succ, List.getElem_cons_zero, List.setIfInBounds_toArray, List.set_cons_zero, List.set_cons_succ]
              refine wpAnyH_take (i := 9) (v := _) rfl (by kernel_rfl) (by kernel_rfl) (by kernel_rfl) (fun _ _ _ h => h) (Or.inl ⟨by kernel_rfl, by (intro wx hSw; (try dsimp only at hSw); go_simp <;> with_reducible rfl)⟩) (by assumption) ?_
              try simp only [Act.put, List.getElem_toArray, List.getElem_cons_succ, List.getElem_cons_zero, List.setIfInBounds_toArray, List.set_cons_zero, List.set_cons_succ]
              refine wpAnyH_take (i := 10) (v := _) rfl (by kernel_rfl) (by kernel_rfl) (by kernel_rfl) (fun _ _ _ h => h) (Or.inl ⟨by kernel_rfl, by (intro wx hSw; (try dsimp only at hSw); go_simp <;> with_reducible rfl)⟩) (by assumption) ?_
              try simp only [Act.put, List.getElem_toArray, List.getElem_cons_succ, List.getElem_cons_zero, List.setIfInBounds_toArray, List.set_cons_zero, List.set_cons_succ]
              refine wpAnyH_ready (rs := [5]) (by kernel_rfl) (by simp) ?_
              refine (AllReadyH.cons rfl (fun K hK => ?_) AllReadyH.nil)
              go_simp
              refine (l8Busy_any gb 13 nx pa pc ps _ _ hlp _ ⟨FG.out.c 13 _ rfl, FG.out.c 14 _ rfl⟩ ((HP.out.below FB.out (Nat.le_refl _)).mono FB.out.size)).mono ?_
              rintro e v_23 ⟨rfl, hb⟩
              have FG : Hid (Blk v_23 gb (gvs h (.slice da ds.length dc) nx (.slice pa ps.length pc) tk rc)) := FG.out.below hb FG.out.lt
              have FB : Hid (Below w.heap.size w v_23) := FB.out.trans (hb.mono FB.out.size)
              clear hb
              have m14 := FG.out.c 14 _ rfl
              try dsimp only
              refine hK.out _ _ (by (try dsimp only); first | exact ⟨m14⟩ | go_keep) (fun hHeld => ?_)
              clear hK K
              try simp only [Act.put, List.getElem_toArray, List.getElem_cons_succ, List.getElem_cons_zero, List.setIfInBounds_toArray, List.set_cons_zero, List.set_cons_succ]
              refine wpAnyH_ready (rs := [11]) (by kernel_rfl) (by simp) ?_
              refine (AllReadyH.cons rfl (fun K hK => ?_) AllReadyH.nil)
              go_simp
              refine (l8Busy_any gb 13 nx pa pc ps _ _ hlp _ ⟨FG.out.c 13 _ rfl, FG.out.c 14 _ rfl⟩ ((HP.out.below FB.out (Nat.le_refl _)).mono FB.out.size)).mono ?_
              rintro e v_24 ⟨rfl, hb⟩
              have FG : Hid (Blk v_24 gb (gvs h (.slice da ds.length dc) nx (.slice pa ps.length pc) tk rc)) := FG.out.below hb FG.out.lt
              have FB : Hid (Below w.heap.size w v_24) := FB.out.trans (hb.mono FB.out.size)
              clear hb
              have m14 := FG.out.c 14 _ rfl
              try dsimp only
              refine hK.out _ _ (by (try dsimp only); first | exact ⟨m14⟩ | go_keep) (fun hHeld => ?_)
              clear hK K
              try simp only [Act.put, List.getElem_toArray, List.getElem_cons_succ, List.getElem_cons_zero, List.setIfInBounds_toArray, List.set_cons_zero, List.set_cons_succ]
              refine wpAnyH_take (i := 12) (v := _) rfl (by kernel_rfl) (by kernel_rfl) (by kernel_rfl) (fun _ _ _ h => h) (Or.inl ⟨by kernel_rfl, by (intro wx hSw; (try dsimp only at hSw); go_simp <;> with_reducible rfl)⟩) (by assumption) ?_
              try simp only [Act.put, List.getElem_toArray, List.getElem_cons_succ, List.getElem_cons_zero, List.setIfInBounds_toArray, List.set_cons_zero, List.set_cons_succ]
              refine wpAnyH_done (by kernel_rfl) ?_ _
              go_wp2_with fail
              go_roundw
              case rel => ((repeat apply Exists.intro); exact ⟨⟨s + 1, by simp, by omega, HT.out.1, HT.out.2, FG.out, FB.out⟩, rfl⟩)
              case measure => simp [intOf]; omega
          · have es : s = ds.length := by omega
            subst es
            go_wp2_with fail
            go_roundw
            case rel => exact ⟨2, by simp, by omega, rfl, rfl, FG.out, FB.out⟩
            case measure => simp [intOf]
      · subst q
        go_wp2_with fail
        exact bodyPost_ret (v := .tuple #[.int .i64 (asgK ps 1 ds.length 2).1, .int .i64 (asgK ps 1 ds.length 2).2]) (by simp [results, Try.results52, go_sem]) rfl ⟨rfl, FB.out⟩
theorem call_parts {h : Hs} {f t : Int} (hf : h.fault = 0) (e : Hs.call h f t = 0) : (0 ≤ f ∧ f ≤ h.fl - 1) ∧ 0 ≤ t ∧ t ≤ h.fl - 1 := by
  unfold Hs.call at e
  rw [if_pos hf] at e
  exact callC_parts e
set_option maxRecDepth 20000 in
set_option maxHeartbeats 32000000 in
theorem specAssignCall_any (h : Hs) (ds : List Dk) (da : Option Addr) (dc : Nat) (nx : Int) (ps : List Pe) (pa : Option Addr) (pc : Nat) (tk : Int) (rc : Bool) (f t : Int) (hld : ds.length ≤ 1048576) (hlp : ps.length ≤ 1048576) (w : World) (hD : DIn w w.heap.size da ds) (hP : PIn w w.heap.size pa ps) :
    Calls Try.prog 19 #[.agg #[.int .i64 h.fl, .int .i64 h.gp, .int .i64 h.ln, .int .i64 h.rf, .int .i64 h.sp, .int .i64 h.pu, .int .i64 h.br, .int .i64 h.dr, .int .i64 h.lv, .int .i64 h.dO, .int .i64 h.ld, .int .i64 h.qu, .slice da ds.length dc, .int .i64 nx, .slice pa ps.length pc, .int .i64 tk, .bool rc], .int .i64 f, .int .i64 t] w fun e w' => e = .returned (.agg #[.int .i64 (Gr.asg ⟨h, ds, ⟨nx, ps⟩, tk, rc⟩ f t).1, .int .i64 (Gr.asg ⟨h, ds, ⟨nx, ps⟩, tk, rc⟩ f t).2.1, .int .i64 (Gr.asg ⟨h, ds, ⟨nx, ps⟩, tk, rc⟩ f t).2.2]) ∧ Below w.heap.size w w' := by
  have HD : Hid (DIn w w.heap.size da ds) := hD
  have HP : Hid (PIn w w.heap.size pa ps) := hP
  have F0 : Hid (Blk ((w.alloc (.cells #[.int .i64 h.fl, .int .i64 h.gp, .int .i64 h.ln, .int .i64 h.rf, .int .i64 h.sp, .int .i64 h.pu, .int .i64 h.br, .int .i64 h.dr, .int .i64 h.lv, .int .i64 h.dO, .int .i64 h.ld, .int .i64 h.qu, .slice da ds.length dc, .int .i64 nx, .slice pa ps.length pc, .int .i64 tk, .bool rc] 38)).alloc (.cells #[.int .i64 0, .int .i64 0, .int .i64 0] 50)) w.heap.size (gvs h (.slice da ds.length dc) nx (.slice pa ps.length pc) tk rc)) := (Blk.at_ w #[.int .i64 h.fl, .int .i64 h.gp, .int .i64 h.ln, .int .i64 h.rf, .int .i64 h.sp, .int .i64 h.pu, .int .i64 h.br, .int .i64 h.dr, .int .i64 h.lv, .int .i64 h.dO, .int .i64 h.ld, .int .i64 h.qu, .slice da ds.length dc, .int .i64 nx, .slice pa ps.length pc, .int .i64 tk, .bool rc] _ _ rfl).alloc _
  have F1 : Hid (Blk ((w.alloc (.cells #[.int .i64 h.fl, .int .i64 h.gp, .int .i64 h.ln, .int .i64 h.rf, .int .i64 h.sp, .int .i64 h.pu, .int .i64 h.br, .int .i64 h.dr, .int .i64 h.lv, .int .i64 h.dO, .int .i64 h.ld, .int .i64 h.qu, .slice da ds.length dc, .int .i64 nx, .slice pa ps.length pc, .int .i64 tk, .bool rc] 38)).alloc (.cells #[.int .i64 0, .int .i64 0, .int .i64 0] 50)) (w.heap.size + 1) [.int .i64 0, .int .i64 0, .int .i64 0]) := Blk.at_ _ #[.int .i64 0, .int .i64 0, .int .i64 0] _ _ (by simp)
  have FB : Hid (Below w.heap.size w ((w.alloc (.cells #[.int .i64 h.fl, .int .i64 h.gp, .int .i64 h.ln, .int .i64 h.rf, .int .i64 h.sp, .int .i64 h.pu, .int .i64 h.br, .int .i64 h.dr, .int .i64 h.lv, .int .i64 h.dO, .int .i64 h.ld, .int .i64 h.qu, .slice da ds.length dc, .int .i64 nx, .slice pa ps.length pc, .int .i64 tk, .bool rc] 38)).alloc (.cells #[.int .i64 0, .int .i64 0, .int .i64 0] 50))) := ((Below.refl _ _).alloc (Nat.le_refl _) _).alloc (by simp) _
  obtain ⟨W0, hW0⟩ : ∃ W0, W0 = ((w.alloc (.cells #[.int .i64 h.fl, .int .i64 h.gp, .int .i64 h.ln, .int .i64 h.rf, .int .i64 h.sp, .int .i64 h.pu, .int .i64 h.br, .int .i64 h.dr, .int .i64 h.lv, .int .i64 h.dO, .int .i64 h.ld, .int .i64 h.qu, .slice da ds.length dc, .int .i64 nx, .slice pa ps.length pc, .int .i64 tk, .bool rc] 38)).alloc (.cells #[.int .i64 0, .int .i64 0, .int .i64 0] 50)) := ⟨_, rfl⟩
  rw [← hW0] at F0 F1 FB
  have HW0 : Hid (W0 = ((w.alloc (.cells #[.int .i64 h.fl, .int .i64 h.gp, .int .i64 h.ln, .int .i64 h.rf, .int .i64 h.sp, .int .i64 h.pu, .int .i64 h.br, .int .i64 h.dr, .int .i64 h.lv, .int .i64 h.dO, .int .i64 h.ld, .int .i64 h.qu, .slice da ds.length dc, .int .i64 nx, .slice pa ps.length pc, .int .i64 tk, .bool rc] 38)).alloc (.cells #[.int .i64 0, .int .i64 0, .int .i64 0] 50))) := hW0
  clear hW0 hD hP
  unfold Gr.asg
  by_cases kf : Gr.fault ⟨h, ds, ⟨nx, ps⟩, tk, rc⟩ = 0
  case neg =>
    rw [if_neg kf]
    obtain ⟨k, hk⟩ : ∃ k, Gr.fault ⟨h, ds, ⟨nx, ps⟩, tk, rc⟩ = k := ⟨_, rfl⟩
    rw [hk] at kf ⊢
    have HF : Hid (Gr.fault ⟨h, ds, ⟨nx, ps⟩, tk, rc⟩ = k) := hk
    have e1 : (k != 0) = true := by simpa using kf
    clear hk kf
    go_enter Try.func19, Try.ntmps19
    go_upto_region 1 with fail
    rw [← HW0.out]
    go_wp2_with (first | (refine load_blk 38 _ Try.underlying38 (by kernel_rfl) F0.out rfl rfl rfl ?_) | (go_at_call 9; refine (specGroupFault_any h ds da dc nx ps pa pc tk rc hld hlp _ ((HD.out.below FB.out (Nat.le_refl _)).mono FB.out.size) ((HP.out.below FB.out (Nat.le_refl _)).mono FB.out.size)).mono ?_; rw [HF.out]; rintro e w1 ⟨rfl, hb⟩; have F0 : Hid (Blk w1 w.heap.size (gvs h (.slice da ds.length dc) nx (.slice pa ps.length pc) tk rc)) := F0.out.below hb F0.out.lt; have F1 : Hid (Blk w1 (w.heap.size + 1) [.int .i64 0, .int .i64 0, .int .i64 0]) := F1.out.below hb F1.out.lt; have FB : Hid (Below w.heap.size w w1) := FB.out.trans (hb.mono FB.out.size); clear hb; have x0 := F0.out.c 0 _ rfl; have x1 := F0.out.c 1 _ rfl; have x2 := F0.out.c 2 _ rfl; have x3 := F0.out.c 3 _ rfl; have x4 := F0.out.c 4 _ rfl; have x5 := F0.out.c 5 _ rfl; have x6 := F0.out.c 6 _ rfl; have x7 := F0.out.c 7 _ rfl; have x8 := F0.out.c 8 _ rfl; have x9 := F0.out.c 9 _ rfl; have x10 := F0.out.c 10 _ rfl; have x11 := F0.out.c 11 _ rfl) | (refine store_blk [.int .i64 k, .int .i64 0, .int .i64 0] 50 _ _ (by kernel_rfl) (by kernel_rfl) (by kernel_rfl) F1.out rfl rfl rfl rfl ?_))
    exact bodyPost_ret (v := .agg #[.int .i64 k, .int .i64 0, .int .i64 0]) ((F1.out.row [.int .i64 k, .int .i64 0, .int .i64 0]).res _ Try.results19 Try.underlying50 (by kernel_rfl) rfl) rfl ⟨rfl, below_row FB.out (by omega) _⟩
  have HF : Hid (Gr.fault ⟨h, ds, ⟨nx, ps⟩, tk, rc⟩ = 0) := kf
  obtain ⟨hf, -⟩ := Gr.fault_parts kf
  dsimp only at hf
  rw [if_pos kf]
  dsimp only
  clear kf
  by_cases kc : Hs.call h f t = 0
  case neg =>
    rw [if_neg kc]
    obtain ⟨k, hk⟩ : ∃ k, Hs.call h f t = k := ⟨_, rfl⟩
    rw [hk] at kc ⊢
    have HC : Hid (Hs.call h f t = k) := hk
    have e1 : (k != 0) = true := by simpa using kc
    clear hk kc
    go_enter Try.func19, Try.ntmps19
    go_upto_region 1 with fail
    rw [← HW0.out]
    go_wp2_with (first | (refine load_blk 38 _ Try.underlying38 (by kernel_rfl) F0.out rfl rfl rfl ?_) | (go_at_call 9; refine (specGroupFault_any h ds da dc nx ps pa pc tk rc hld hlp _ ((HD.out.below FB.out (Nat.le_refl _)).mono FB.out.size) ((HP.out.below FB.out (Nat.le_refl _)).mono FB.out.size)).mono ?_; rw [HF.out]; rintro e w1 ⟨rfl, hb⟩; have F0 : Hid (Blk w1 w.heap.size (gvs h (.slice da ds.length dc) nx (.slice pa ps.length pc) tk rc)) := F0.out.below hb F0.out.lt; have F1 : Hid (Blk w1 (w.heap.size + 1) [.int .i64 0, .int .i64 0, .int .i64 0]) := F1.out.below hb F1.out.lt; have FB : Hid (Below w.heap.size w w1) := FB.out.trans (hb.mono FB.out.size); clear hb; have x0 := F0.out.c 0 _ rfl; have x1 := F0.out.c 1 _ rfl; have x2 := F0.out.c 2 _ rfl; have x3 := F0.out.c 3 _ rfl; have x4 := F0.out.c 4 _ rfl; have x5 := F0.out.c 5 _ rfl; have x6 := F0.out.c 6 _ rfl; have x7 := F0.out.c 7 _ rfl; have x8 := F0.out.c 8 _ rfl; have x9 := F0.out.c 9 _ rfl; have x10 := F0.out.c 10 _ rfl; have x11 := F0.out.c 11 _ rfl) | (go_at_call 51; refine (specCallFault_any h f t _).mono ?_; rw [HC.out]; rintro e w2 ⟨rfl, hb⟩; have F0 : Hid (Blk w2 w.heap.size (gvs h (.slice da ds.length dc) nx (.slice pa ps.length pc) tk rc)) := F0.out.below hb F0.out.lt; have F1 : Hid (Blk w2 (w.heap.size + 1) [.int .i64 0, .int .i64 0, .int .i64 0]) := F1.out.below hb F1.out.lt; have FB : Hid (Below w.heap.size w w2) := FB.out.trans (hb.mono FB.out.size); clear hb) | (refine store_blk [.int .i64 k, .int .i64 0, .int .i64 0] 50 _ _ (by kernel_rfl) (by kernel_rfl) (by kernel_rfl) F1.out rfl rfl rfl rfl ?_))
    exact bodyPost_ret (v := .agg #[.int .i64 k, .int .i64 0, .int .i64 0]) ((F1.out.row [.int .i64 k, .int .i64 0, .int .i64 0]).res _ Try.results19 Try.underlying50 (by kernel_rfl) rfl) rfl ⟨rfl, below_row FB.out (by omega) _⟩
  have HC : Hid (Hs.call h f t = 0) := kc
  have oo := Hs.ok_of (Hs.fault_zero hf).1
  have fl2 := oo.fl2
  obtain ⟨⟨f0, f1⟩, t0, t1⟩ := call_parts hf kc
  rw [if_pos kc]
  dsimp only
  obtain ⟨rs, hrs⟩ : ∃ rs, (asgK ps (Hs.pref h f t) ds.length 2).1 = rs := ⟨_, rfl⟩
  obtain ⟨rc2, hrc⟩ : ∃ rc2, (asgK ps (Hs.pref h f t) ds.length 2).2 = rc2 := ⟨_, rfl⟩
  have HRS : Hid ((asgK ps (Hs.pref h f t) ds.length 2).1 = rs) := hrs
  have HRC : Hid ((asgK ps (Hs.pref h f t) ds.length 2).2 = rc2) := hrc
  rw [hrs, hrc]
  clear hrs hrc kc hf oo
  go_enter Try.func19, Try.ntmps19
  go_upto_region 1 with fail
  rw [← HW0.out]
  go_wp2_with (first | (refine load_blk 38 _ Try.underlying38 (by kernel_rfl) F0.out rfl rfl rfl ?_) | (go_at_call 9; refine (specGroupFault_any h ds da dc nx ps pa pc tk rc hld hlp _ ((HD.out.below FB.out (Nat.le_refl _)).mono FB.out.size) ((HP.out.below FB.out (Nat.le_refl _)).mono FB.out.size)).mono ?_; rw [HF.out]; rintro e w1 ⟨rfl, hb⟩; have F0 : Hid (Blk w1 w.heap.size (gvs h (.slice da ds.length dc) nx (.slice pa ps.length pc) tk rc)) := F0.out.below hb F0.out.lt; have F1 : Hid (Blk w1 (w.heap.size + 1) [.int .i64 0, .int .i64 0, .int .i64 0]) := F1.out.below hb F1.out.lt; have FB : Hid (Below w.heap.size w w1) := FB.out.trans (hb.mono FB.out.size); clear hb; have x0 := F0.out.c 0 _ rfl; have x1 := F0.out.c 1 _ rfl; have x2 := F0.out.c 2 _ rfl; have x3 := F0.out.c 3 _ rfl; have x4 := F0.out.c 4 _ rfl; have x5 := F0.out.c 5 _ rfl; have x6 := F0.out.c 6 _ rfl; have x7 := F0.out.c 7 _ rfl; have x8 := F0.out.c 8 _ rfl; have x9 := F0.out.c 9 _ rfl; have x10 := F0.out.c 10 _ rfl; have x11 := F0.out.c 11 _ rfl) | (go_at_call 51; refine (specCallFault_any h f t _).mono ?_; rw [HC.out]; rintro e w2 ⟨rfl, hb⟩; have F0 : Hid (Blk w2 w.heap.size (gvs h (.slice da ds.length dc) nx (.slice pa ps.length pc) tk rc)) := F0.out.below hb F0.out.lt; have F1 : Hid (Blk w2 (w.heap.size + 1) [.int .i64 0, .int .i64 0, .int .i64 0]) := F1.out.below hb F1.out.lt; have FB : Hid (Below w.heap.size w w2) := FB.out.trans (hb.mono FB.out.size); clear hb) | (go_at_call 52; refine (l8Assign_any w.heap.size h ds da dc nx ps pa pc tk rc f t f0 (by omega) t0 (by omega) hld hlp _ F0.out ((HP.out.below FB.out (Nat.le_refl _)).mono FB.out.size)).mono ?_; rw [HRS.out, HRC.out]; rintro e w3 ⟨rfl, hb⟩; have F0 : Hid (Blk w3 w.heap.size (gvs h (.slice da ds.length dc) nx (.slice pa ps.length pc) tk rc)) := F0.out.below hb F0.out.lt; have F1 : Hid (Blk w3 (w.heap.size + 1) [.int .i64 0, .int .i64 0, .int .i64 0]) := F1.out.below hb F1.out.lt; have FB : Hid (Below w.heap.size w w3) := FB.out.trans (hb.mono FB.out.size); clear hb) | (refine store_blk [.int .i64 0, .int .i64 rs, .int .i64 rc2] 50 _ _ (by kernel_rfl) (by kernel_rfl) (by kernel_rfl) F1.out rfl rfl rfl rfl ?_))
  exact bodyPost_ret (v := .agg #[.int .i64 0, .int .i64 rs, .int .i64 rc2]) ((F1.out.row [.int .i64 0, .int .i64 rs, .int .i64 rc2]).res _ Try.results19 Try.underlying50 (by kernel_rfl) rfl) rfl ⟨rfl, below_row FB.out (by omega) _⟩
theorem eqWhereResult_same (k id fl : Int) (w : World) :
    Calls Try.prog 21 #[.agg #[.int .i64 k, .int .i64 id, .int .i64 fl], .agg #[.int .i64 k, .int .i64 id, .int .i64 fl]] w fun e w' => e = .returned (.bool true) ∧ Below w.heap.size w w' := by
  go_enter Try.func21, Try.ntmps21
  go_wp2
  go_ret
  exact ⟨rfl, by repeat (first | exact Below.refl _ _ | (refine Below.alloc ?_ ?_ _) | (refine Below.setCell ?_ ?_ _) | (simp; omega) | simp)⟩
end Go.Proofs.Ytehdgifinanbbaa
