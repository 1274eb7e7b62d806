/-
  The model's group: to which car a call goes.
-/
import Derived.Test.YtdkikijnjkoddaaGreatGfS
import Derived.Test.YtdkikijnjkoddaaGreatPsA
import Derived.Test.YtdkikijnjkoddaaGreatQuA
import Derived.Test.YtdkikijnjkoddaaGreatPersE
import Derived.BigGuardPart
namespace Go.Proofs.YtdkikijnjkoddaaGreat
open Go.RowKit Pl
set_option linter.unusedSimpArgs false
set_option linter.unusedVariables false

set_option maxRecDepth 20000 in
set_option maxHeartbeats 16000000 in
theorem l8Busy_any (lb lo : Nat) (nx : Int) (pa : Option Addr) (pc : Nat) (ps : List Pe) (sh ca : Int) (hlp : ps.length ≤ 1048576) (w : World) (hL : LAo w lb lo nx pa ps.length pc) (hP : PIn w w.heap.size pa ps) :
    Calls Tryz.prog 41 #[.pointer (some ⟨lb, lo, none⟩), .int .i64 sh, .int .i64 ca] w fun e w' => e = .returned (.int .i64 (busy ps sh ca)) ∧ Below w.heap.size w w' := by
  have HL : Hid (LAo w lb lo nx pa ps.length pc) := hL
  have HP : Hid (PIn w w.heap.size pa ps) := hP
  have FB : Hid (Below w.heap.size w w) := Below.refl _ _
  have ub := busy_bd ps sh ca
  unfold busy at ub ⊢
  have ew : IntKind.i64.wrap ((cnt 0 sh ca ps : Int) + (cnt 1 sh ca ps : Int)) = (cnt 0 sh ca ps : Int) + (cnt 1 sh ca ps : Int) := IntWalk.i64_in _ (by omega)
  clear hL hP ub
  go_enter Tryz.func41, Tryz.ntmps41
  go_wp2_with (go_at_call 43; refine (l7Count_anyO lb lo nx pa pc ps _ sh ca hlp _ HL.out ((HP.out.below FB.out (Nat.le_refl _)).mono FB.out.size)).mono ?_; rintro e w1 ⟨rfl, hb⟩; have HL : Hid (LAo w1 lb lo nx pa ps.length pc) := HL.out.below hb HL.out.lt; have FB : Hid (Below w.heap.size w w1) := FB.out.trans (hb.mono FB.out.size); clear hb)
  go_ret
  exact ⟨rfl, FB.out⟩
set_option maxRecDepth 20000 in
set_option maxHeartbeats 32000000 in
theorem l8Assign_any (gb : Nat) (h : Hs) (ds : List Dk) (da : Option Addr) (dc : Nat) (nx : Int) (ps : List Pe) (pa : Option Addr) (pc : Nat) (tk : Int) (rc : Bool) (f t : Int) (f0 : 0 ≤ f) (f1 : f ≤ 11) (t0 : 0 ≤ t) (t1 : t ≤ 11) (hld : ds.length ≤ 1048576) (hlp : ps.length ≤ 1048576) (w : World) (hG : Blk w gb (gvs h (.slice da ds.length dc) nx (.slice pa ps.length pc) tk rc)) (hP : PIn w w.heap.size pa ps) :
    Calls Tryz.prog 18 #[.pointer (some ⟨gb, 0, none⟩), .int .i64 f, .int .i64 t] w fun e w' => e = .returned (.tuple #[.int .i64 (asgK ps (Hs.pref h f t) ds.length 2).1, .int .i64 (asgK ps (Hs.pref h f t) ds.length 2).2]) ∧ Below w.heap.size w w' := by
  have HP : Hid (PIn w w.heap.size pa ps) := hP
  have FG : Hid (Blk w gb (gvs h (.slice da ds.length dc) nx (.slice pa ps.length pc) tk rc)) := hG
  have FB : Hid (Below w.heap.size w w) := Below.refl _ _
  have x0 := FG.out.c 0 _ rfl
  have ew : IntKind.i64.wrap (f + t) = f + t := IntWalk.i64_in _ (by omega)
  obtain ⟨p, hp⟩ : ∃ p, Hs.pref h f t = p := ⟨_, rfl⟩
  rw [hp]
  have pv : p = 0 ∨ p = 1 := by rw [← hp]; unfold Hs.pref; split <;> simp
  have e1 : IntKind.i64.wrap (1 - p) = 1 - p := IntWalk.i64_in _ (by omega)
  clear hG hP
  have hx : asgK ps p ds.length 2 = asgRow ps (1 - p) (asgRow ps p (0, p) ds.length) ds.length := rfl
  clear hx
  rcases pv with z | z
  · subst z
    have d : decide (h.fl ≤ f + t) = false := decide_eq_false (by unfold Hs.pref at hp; split at hp <;> omega)
    clear hp
    go_enter Tryz.func18, Tryz.ntmps18
    go_wp2_with fail
    clear x0 d
    go_loopw [9, 10, 11] (fun bb cc kk wr => ∃ k : Nat, kk = .int .i64 k ∧ k ≤ 2 ∧ bb = .int .i64 (asgK ps 0 ds.length k).1 ∧ cc = .int .i64 (asgK ps 0 ds.length k).2 ∧ Blk wr gb (gvs h (.slice da ds.length dc) nx (.slice pa ps.length pc) tk rc) ∧ Below w.heap.size w wr) (fun _ _ kk _ => 2 - (intOf kk).toNat)
    case atStart => exact ⟨0, rfl, by omega, rfl, rfl, FG.out, FB.out⟩
    case round =>
      obtain ⟨k, rfl, hk, rfl, rfl, h0, h1⟩ := hrel
      have FG : Hid (Blk wr gb (gvs h (.slice da ds.length dc) nx (.slice pa ps.length pc) tk rc)) := h0
      have FB : Hid (Below w.heap.size w wr) := h1
      clear h0 h1
      have kc : k = 0 ∨ k = 1 ∨ k = 2 := by omega
      rcases kc with q | q | q
      · subst q
        have x12 := FG.out.c 12 _ rfl
        go_wp2_with fail
        go_loopw [9, 10, 13] (fun bb cc ss wr => ∃ s : Nat, ss = .int .i64 s ∧ s ≤ ds.length ∧ bb = .int .i64 (asgRow ps 0 (0, 0) s).1 ∧ cc = .int .i64 (asgRow ps 0 (0, 0) s).2 ∧ Blk wr gb (gvs h (.slice da ds.length dc) nx (.slice pa ps.length pc) tk rc) ∧ Below w.heap.size w wr) (fun _ _ ss _ => ds.length - (intOf ss).toNat)
        case atStart => exact ⟨0, rfl, by omega, rfl, rfl, FG.out, FB.out⟩
        case round =>
          obtain ⟨s, rfl, hs, rfl, rfl, h0, h1⟩ := hrel
          have FG : Hid (Blk wr gb (gvs h (.slice da ds.length dc) nx (.slice pa ps.length pc) tk rc)) := h0
          have FB : Hid (Below w.heap.size w wr) := h1
          clear h0 h1
          have x12 := FG.out.c 12 _ rfl
          by_cases hlt : s < ds.length
          · obtain ⟨x, hx⟩ : ∃ x, (asgRow ps 0 (0, 0) s).1 = x := ⟨_, rfl⟩
            obtain ⟨y, hy⟩ : ∃ y, (asgRow ps 0 (0, 0) s).2 = y := ⟨_, rfl⟩
            have HX := asgRow_next hx hy
            rw [hx, hy]
            clear hx hy
            by_cases c : busy ps s 0 < busy ps x y
            · have lt : decide (busy ps s 0 < busy ps x y) = true := decide_eq_true c
              have HT : Hid (Value.int .i64 (s : Int) = .int .i64 (asgRow ps 0 (0, 0) (s + 1)).1 ∧ Value.int .i64 0 = .int .i64 (asgRow ps 0 (0, 0) (s + 1)).2) := by rw [HX, if_pos c]; exact ⟨rfl, rfl⟩
              clear HX c
              go_wp2_with fail
              have FG : Hid (Blk wr.drew gb (gvs h (.slice da ds.length dc) nx (.slice pa ps.length pc) tk rc)) := FG.out.below (Below.refl _ _).drew FG.out.lt
              have FB : Hid (Below w.heap.size w wr.drew) := FB.out.drew
              have m14 := FG.out.c 14 _ rfl
              refine wp_region_held_drew (S := (fun w'' => w''.cell? ⟨gb, 14, none⟩ = some (.slice pa ps.length pc))) (by kernel_rfl) (by (try dsimp only); first | exact m14 | go_keep) (fun hHeld => ?_)
              obtain ⟨v_1, hw1⟩ : ∃ v_1, v_1 = wr.drew := ⟨_, rfl⟩
              have FG : Hid (Blk v_1 gb (gvs h (.slice da ds.length dc) nx (.slice pa ps.length pc) tk rc)) := by rw [hw1]; exact FG.out
              have FB : Hid (Below w.heap.size w v_1) := by rw [hw1]; exact FB.out
              rw [← hw1] at hHeld ⊢
              clear hw1
              have m14 := FG.out.c 14 _ rfl
              refine tkz 0 rfl ?_
              refine tkz 1 rfl ?_
              refine tkz 2 rfl ?_
              refine tkz 3 rfl ?_
              refine tkz 4 rfl ?_
              refine tkz 6 rfl ?_
              refine tkz 7 rfl ?_
              refine tkz 8 rfl ?_
              refine tkz 9 rfl ?_
              refine tkz 10 rfl ?_
              refine wpAnyH_ready (rs := [5]) (by kernel_rfl) (by simp) ?_
              refine (AllReadyH.cons rfl (fun K hK => ?_) AllReadyH.nil)
              go_simp
              refine (l8Busy_any gb 13 nx pa pc ps _ _ hlp _ ⟨FG.out.c 13 _ rfl, FG.out.c 14 _ rfl⟩ ((HP.out.below FB.out (Nat.le_refl _)).mono FB.out.size)).mono ?_
              rintro e v_2 ⟨rfl, hb⟩
              have FG : Hid (Blk v_2 gb (gvs h (.slice da ds.length dc) nx (.slice pa ps.length pc) tk rc)) := FG.out.below hb FG.out.lt
              have FB : Hid (Below w.heap.size w v_2) := FB.out.trans (hb.mono FB.out.size)
              clear hb
              have m14 := FG.out.c 14 _ rfl
              try dsimp only
              refine hK.out _ _ (by (try dsimp only); first | exact m14 | go_keep) (fun hHeld => ?_)
              clear hK K
              try simp only [Act.put, List.getElem_toArray, List.getElem_cons_succ, List.getElem_cons_zero, List.setIfInBounds_toArray, List.set_cons_zero, List.set_cons_succ]
              refine wpAnyH_ready (rs := [11]) (by kernel_rfl) (by simp) ?_
              refine (AllReadyH.cons rfl (fun K hK => ?_) AllReadyH.nil)
              go_simp
              refine (l8Busy_any gb 13 nx pa pc ps _ _ hlp _ ⟨FG.out.c 13 _ rfl, FG.out.c 14 _ rfl⟩ ((HP.out.below FB.out (Nat.le_refl _)).mono FB.out.size)).mono ?_
              rintro e v_3 ⟨rfl, hb⟩
              have FG : Hid (Blk v_3 gb (gvs h (.slice da ds.length dc) nx (.slice pa ps.length pc) tk rc)) := FG.out.below hb FG.out.lt
              have FB : Hid (Below w.heap.size w v_3) := FB.out.trans (hb.mono FB.out.size)
              clear hb
              have m14 := FG.out.c 14 _ rfl
              try dsimp only
              refine hK.out _ _ (by (try dsimp only); first | exact m14 | go_keep) (fun hHeld => ?_)
              clear hK K
              try simp only [Act.put, List.getElem_toArray, List.getElem_cons_succ, List.getElem_cons_zero, List.setIfInBounds_toArray, List.set_cons_zero, List.set_cons_succ]
              refine tkz 12 rfl ?_
              refine wpAnyH_done (by kernel_rfl) ?_ _
              go_wp2_with fail
              go_roundw
              case rel => ((repeat apply Exists.intro); exact ⟨⟨s + 1, by simp, by omega, HT.out.1, HT.out.2, FG.out, FB.out⟩, rfl⟩)
              case measure => simp [intOf]; omega
            · have lt : decide (busy ps s 0 < busy ps x y) = false := decide_eq_false c
              have HT : Hid (Value.int .i64 x = .int .i64 (asgRow ps 0 (0, 0) (s + 1)).1 ∧ Value.int .i64 y = .int .i64 (asgRow ps 0 (0, 0) (s + 1)).2) := by rw [HX, if_neg c]; exact ⟨rfl, rfl⟩
              clear HX c
              go_wp2_with fail
              have FG : Hid (Blk wr.drew gb (gvs h (.slice da ds.length dc) nx (.slice pa ps.length pc) tk rc)) := FG.out.below (Below.refl _ _).drew FG.out.lt
              have FB : Hid (Below w.heap.size w wr.drew) := FB.out.drew
              have m14 := FG.out.c 14 _ rfl
              refine wp_region_held_drew (S := (fun w'' => w''.cell? ⟨gb, 14, none⟩ = some (.slice pa ps.length pc))) (by kernel_rfl) (by (try dsimp only); first | exact m14 | go_keep) (fun hHeld => ?_)
              obtain ⟨v_4, hw1⟩ : ∃ v_4, v_4 = wr.drew := ⟨_, rfl⟩
              have FG : Hid (Blk v_4 gb (gvs h (.slice da ds.length dc) nx (.slice pa ps.length pc) tk rc)) := by rw [hw1]; exact FG.out
              have FB : Hid (Below w.heap.size w v_4) := by rw [hw1]; exact FB.out
              rw [← hw1] at hHeld ⊢
              clear hw1
              have m14 := FG.out.c 14 _ rfl
              refine tkz 0 rfl ?_
              refine tkz 1 rfl ?_
              refine tkz 2 rfl ?_
              refine tkz 3 rfl ?_
              refine tkz 4 rfl ?_
              refine tkz 6 rfl ?_
              refine tkz 7 rfl ?_
              refine tkz 8 rfl ?_
              refine tkz 9 rfl ?_
              refine tkz 10 rfl ?_
              refine wpAnyH_ready (rs := [5]) (by kernel_rfl) (by simp) ?_
              refine (AllReadyH.cons rfl (fun K hK => ?_) AllReadyH.nil)
              go_simp
              refine (l8Busy_any gb 13 nx pa pc ps _ _ hlp _ ⟨FG.out.c 13 _ rfl, FG.out.c 14 _ rfl⟩ ((HP.out.below FB.out (Nat.le_refl _)).mono FB.out.size)).mono ?_
              rintro e v_5 ⟨rfl, hb⟩
              have FG : Hid (Blk v_5 gb (gvs h (.slice da ds.length dc) nx (.slice pa ps.length pc) tk rc)) := FG.out.below hb FG.out.lt
              have FB : Hid (Below w.heap.size w v_5) := FB.out.trans (hb.mono FB.out.size)
              clear hb
              have m14 := FG.out.c 14 _ rfl
              try dsimp only
              refine hK.out _ _ (by (try dsimp only); first | exact m14 | go_keep) (fun hHeld => ?_)
              clear hK K
              try simp only [Act.put, List.getElem_toArray, List.getElem_cons_succ, List.getElem_cons_zero, List.setIfInBounds_toArray, List.set_cons_zero, List.set_cons_succ]
              refine wpAnyH_ready (rs := [11]) (by kernel_rfl) (by simp) ?_
              refine (AllReadyH.cons rfl (fun K hK => ?_) AllReadyH.nil)
              go_simp
              refine (l8Busy_any gb 13 nx pa pc ps _ _ hlp _ ⟨FG.out.c 13 _ rfl, FG.out.c 14 _ rfl⟩ ((HP.out.below FB.out (Nat.le_refl _)).mono FB.out.size)).mono ?_
              rintro e v_6 ⟨rfl, hb⟩
              have FG : Hid (Blk v_6 gb (gvs h (.slice da ds.length dc) nx (.slice pa ps.length pc) tk rc)) := FG.out.below hb FG.out.lt
              have FB : Hid (Below w.heap.size w v_6) := FB.out.trans (hb.mono FB.out.size)
              clear hb
              have m14 := FG.out.c 14 _ rfl
              try dsimp only
              refine hK.out _ _ (by (try dsimp only); first | exact m14 | go_keep) (fun hHeld => ?_)
              clear hK K
              try simp only [Act.put, List.getElem_toArray, List.getElem_cons_succ, List.getElem_cons_zero, List.setIfInBounds_toArray, List.set_cons_zero, List.set_cons_succ]
              refine tkz 12 rfl ?_
              refine wpAnyH_done (by kernel_rfl) ?_ _
              go_wp2_with fail
              go_roundw
              case rel => ((repeat apply Exists.intro); exact ⟨⟨s + 1, by simp, by omega, HT.out.1, HT.out.2, FG.out, FB.out⟩, rfl⟩)
              case measure => simp [intOf]; omega
          · have es : s = ds.length := by omega
            subst es
            go_wp2_with fail
            go_roundw
            case rel => exact ⟨1, by simp, by omega, rfl, rfl, FG.out, FB.out⟩
            case measure => simp [intOf]
      · subst q
        have x12 := FG.out.c 12 _ rfl
        go_wp2_with fail
        go_loopw [9, 10, 13] (fun bb cc ss wr => ∃ s : Nat, ss = .int .i64 s ∧ s ≤ ds.length ∧ bb = .int .i64 (asgRow ps 1 (asgRow ps 0 (0, 0) ds.length) s).1 ∧ cc = .int .i64 (asgRow ps 1 (asgRow ps 0 (0, 0) ds.length) s).2 ∧ Blk wr gb (gvs h (.slice da ds.length dc) nx (.slice pa ps.length pc) tk rc) ∧ Below w.heap.size w wr) (fun _ _ ss _ => ds.length - (intOf ss).toNat)
        case atStart => exact ⟨0, rfl, by omega, rfl, rfl, FG.out, FB.out⟩
        case round =>
          obtain ⟨s, rfl, hs, rfl, rfl, h0, h1⟩ := hrel
          have FG : Hid (Blk wr gb (gvs h (.slice da ds.length dc) nx (.slice pa ps.length pc) tk rc)) := h0
          have FB : Hid (Below w.heap.size w wr) := h1
          clear h0 h1
          have x12 := FG.out.c 12 _ rfl
          by_cases hlt : s < ds.length
          · obtain ⟨x, hx⟩ : ∃ x, (asgRow ps 1 (asgRow ps 0 (0, 0) ds.length) s).1 = x := ⟨_, rfl⟩
            obtain ⟨y, hy⟩ : ∃ y, (asgRow ps 1 (asgRow ps 0 (0, 0) ds.length) s).2 = y := ⟨_, rfl⟩
            have HX := asgRow_next hx hy
            rw [hx, hy]
            clear hx hy
            by_cases c : busy ps s 1 < busy ps x y
            · have lt : decide (busy ps s 1 < busy ps x y) = true := decide_eq_true c
              have HT : Hid (Value.int .i64 (s : Int) = .int .i64 (asgRow ps 1 (asgRow ps 0 (0, 0) ds.length) (s + 1)).1 ∧ Value.int .i64 1 = .int .i64 (asgRow ps 1 (asgRow ps 0 (0, 0) ds.length) (s + 1)).2) := by rw [HX, if_pos c]; exact ⟨rfl, rfl⟩
              clear HX c
              go_wp2_with fail
              have FG : Hid (Blk wr.drew gb (gvs h (.slice da ds.length dc) nx (.slice pa ps.length pc) tk rc)) := FG.out.below (Below.refl _ _).drew FG.out.lt
              have FB : Hid (Below w.heap.size w wr.drew) := FB.out.drew
              have m14 := FG.out.c 14 _ rfl
              refine wp_region_held_drew (S := (fun w'' => w''.cell? ⟨gb, 14, none⟩ = some (.slice pa ps.length pc))) (by kernel_rfl) (by (try dsimp only); first | exact m14 | go_keep) (fun hHeld => ?_)
              obtain ⟨v_7, hw1⟩ : ∃ v_7, v_7 = wr.drew := ⟨_, rfl⟩
              have FG : Hid (Blk v_7 gb (gvs h (.slice da ds.length dc) nx (.slice pa ps.length pc) tk rc)) := by rw [hw1]; exact FG.out
              have FB : Hid (Below w.heap.size w v_7) := by rw [hw1]; exact FB.out
              rw [← hw1] at hHeld ⊢
              clear hw1
              have m14 := FG.out.c 14 _ rfl
              refine tkz 0 rfl ?_
              refine tkz 1 rfl ?_
              refine tkz 2 rfl ?_
              refine tkz 3 rfl ?_
              refine tkz 4 rfl ?_
              refine tkz 6 rfl ?_
              refine tkz 7 rfl ?_
              refine tkz 8 rfl ?_
              refine tkz 9 rfl ?_
              refine tkz 10 rfl ?_
              refine wpAnyH_ready (rs := [5]) (by kernel_rfl) (by simp) ?_
              refine (AllReadyH.cons rfl (fun K hK => ?_) AllReadyH.nil)
              go_simp
              refine (l8Busy_any gb 13 nx pa pc ps _ _ hlp _ ⟨FG.out.c 13 _ rfl, FG.out.c 14 _ rfl⟩ ((HP.out.below FB.out (Nat.le_refl _)).mono FB.out.size)).mono ?_
              rintro e v_8 ⟨rfl, hb⟩
              have FG : Hid (Blk v_8 gb (gvs h (.slice da ds.length dc) nx (.slice pa ps.length pc) tk rc)) := FG.out.below hb FG.out.lt
              have FB : Hid (Below w.heap.size w v_8) := FB.out.trans (hb.mono FB.out.size)
              clear hb
              have m14 := FG.out.c 14 _ rfl
              try dsimp only
              refine hK.out _ _ (by (try dsimp only); first | exact m14 | go_keep) (fun hHeld => ?_)
              clear hK K
              try simp only [Act.put, List.getElem_toArray, List.getElem_cons_succ, List.getElem_cons_zero, List.setIfInBounds_toArray, List.set_cons_zero, List.set_cons_succ]
              refine wpAnyH_ready (rs := [11]) (by kernel_rfl) (by simp) ?_
              refine (AllReadyH.cons rfl (fun K hK => ?_) AllReadyH.nil)
              go_simp
              refine (l8Busy_any gb 13 nx pa pc ps _ _ hlp _ ⟨FG.out.c 13 _ rfl, FG.out.c 14 _ rfl⟩ ((HP.out.below FB.out (Nat.le_refl _)).mono FB.out.size)).mono ?_
              rintro e v_9 ⟨rfl, hb⟩
              have FG : Hid (Blk v_9 gb (gvs h (.slice da ds.length dc) nx (.slice pa ps.length pc) tk rc)) := FG.out.below hb FG.out.lt
              have FB : Hid (Below w.heap.size w v_9) := FB.out.trans (hb.mono FB.out.size)
              clear hb
              have m14 := FG.out.c 14 _ rfl
              try dsimp only
              refine hK.out _ _ (by (try dsimp only); first | exact m14 | go_keep) (fun hHeld => ?_)
              clear hK K
              try simp only [Act.put, List.getElem_toArray, List.getElem_cons_succ, List.getElem_cons_zero, List.setIfInBounds_toArray, List.set_cons_zero, List.set_cons_succ]
              refine tkz 12 rfl ?_
              refine wpAnyH_done (by kernel_rfl) ?_ _
              go_wp2_with fail
              go_roundw
              case rel => ((repeat apply Exists.intro); exact ⟨⟨s + 1, by simp, by omega, HT.out.1, HT.out.2, FG.out, FB.out⟩, rfl⟩)
              case measure => simp [intOf]; omega
            · have lt : decide (busy ps s 1 < busy ps x y) = false := decide_eq_false c
              have HT : Hid (Value.int .i64 x = .int .i64 (asgRow ps 1 (asgRow ps 0 (0, 0) ds.length) (s + 1)).1 ∧ Value.int .i64 y = .int .i64 (asgRow ps 1 (asgRow ps 0 (0, 0) ds.length) (s + 1)).2) := by rw [HX, if_neg c]; exact ⟨rfl, rfl⟩
              clear HX c
              go_wp2_with fail
              have FG : Hid (Blk wr.drew gb (gvs h (.slice da ds.length dc) nx (.slice pa ps.length pc) tk rc)) := FG.out.below (Below.refl _ _).drew FG.out.lt
              have FB : Hid (Below w.heap.size w wr.drew) := FB.out.drew
              have m14 := FG.out.c 14 _ rfl
              refine wp_region_held_drew (S := (fun w'' => w''.cell? ⟨gb, 14, none⟩ = some (.slice pa ps.length pc))) (by kernel_rfl) (by (try dsimp only); first | exact m14 | go_keep) (fun hHeld => ?_)
              obtain ⟨v_10, hw1⟩ : ∃ v_10, v_10 = wr.drew := ⟨_, rfl⟩
              have FG : Hid (Blk v_10 gb (gvs h (.slice da ds.length dc) nx (.slice pa ps.length pc) tk rc)) := by rw [hw1]; exact FG.out
              have FB : Hid (Below w.heap.size w v_10) := by rw [hw1]; exact FB.out
              rw [← hw1] at hHeld ⊢
              clear hw1
              have m14 := FG.out.c 14 _ rfl
              refine tkz 0 rfl ?_
              refine tkz 1 rfl ?_
              refine tkz 2 rfl ?_
              refine tkz 3 rfl ?_
              refine tkz 4 rfl ?_
              refine tkz 6 rfl ?_
              refine tkz 7 rfl ?_
              refine tkz 8 rfl ?_
              refine tkz 9 rfl ?_
              refine tkz 10 rfl ?_
              refine wpAnyH_ready (rs := [5]) (by kernel_rfl) (by simp) ?_
              refine (AllReadyH.cons rfl (fun K hK => ?_) AllReadyH.nil)
              go_simp
              refine (l8Busy_any gb 13 nx pa pc ps _ _ hlp _ ⟨FG.out.c 13 _ rfl, FG.out.c 14 _ rfl⟩ ((HP.out.below FB.out (Nat.le_refl _)).mono FB.out.size)).mono ?_
              rintro e v_11 ⟨rfl, hb⟩
              have FG : Hid (Blk v_11 gb (gvs h (.slice da ds.length dc) nx (.slice pa ps.length pc) tk rc)) := FG.out.below hb FG.out.lt
              have FB : Hid (Below w.heap.size w v_11) := FB.out.trans (hb.mono FB.out.size)
              clear hb
              have m14 := FG.out.c 14 _ rfl
              try dsimp only
              refine hK.out _ _ (by (try dsimp only); first | exact m14 | go_keep) (fun hHeld => ?_)
              clear hK K
              try simp only [Act.put, List.getElem_toArray, List.getElem_cons_succ, List.getElem_cons_zero, List.setIfInBounds_toArray, List.set_cons_zero, List.set_cons_succ]
              refine wpAnyH_ready (rs := [11]) (by kernel_rfl) (by simp) ?_
              refine (AllReadyH.cons rfl (fun K hK => ?_) AllReadyH.nil)
              go_simp
              refine (l8Busy_any gb 13 nx pa pc ps _ _ hlp _ ⟨FG.out.c 13 _ rfl, FG.out.c 14 _ rfl⟩ ((HP.out.below FB.out (Nat.le_refl _)).mono FB.out.size)).mono ?_
              rintro e v_12 ⟨rfl, hb⟩
              have FG : Hid (Blk v_12 gb (gvs h (.slice da ds.length dc) nx (.slice pa ps.length pc) tk rc)) := FG.out.below hb FG.out.lt
              have FB : Hid (Below w.heap.size w v_12) := FB.out.trans (hb.mono FB.out.size)
              clear hb
              have m14 := FG.out.c 14 _ rfl
              try dsimp only
              refine hK.out _ _ (by (try dsimp only); first | exact m14 | go_keep) (fun hHeld => ?_)
              clear hK K
              try simp only [Act.put, List.getElem_toArray, List.getElem_cons_succ, List.getElem_cons_zero, List.setIfInBounds_toArray, List.set_cons_zero, List.set_cons_succ]
              refine tkz 12 rfl ?_
              refine wpAnyH_done (by kernel_rfl) ?_ _
              go_wp2_with fail
              go_roundw
              case rel => ((repeat apply Exists.intro); exact ⟨⟨s + 1, by simp, by omega, HT.out.1, HT.out.2, FG.out, FB.out⟩, rfl⟩)
              case measure => simp [intOf]; omega
          · have es : s = ds.length := by omega
            subst es
            go_wp2_with fail
            go_roundw
            case rel => exact ⟨2, by simp, by omega, rfl, rfl, FG.out, FB.out⟩
            case measure => simp [intOf]
      · subst q
        go_wp2_with fail
        exact bodyPost_ret (v := .tuple #[.int .i64 (asgK ps 0 ds.length 2).1, .int .i64 (asgK ps 0 ds.length 2).2]) (by simp [results, Tryz.results18, go_sem]) rfl ⟨rfl, FB.out⟩
  · subst z
    have d : decide (h.fl ≤ f + t) = true := decide_eq_true (by unfold Hs.pref at hp; split at hp <;> omega)
    clear hp
    go_enter Tryz.func18, Tryz.ntmps18
    go_wp2_with fail
    clear x0 d
    go_loopw [9, 10, 11] (fun bb cc kk wr => ∃ k : Nat, kk = .int .i64 k ∧ k ≤ 2 ∧ bb = .int .i64 (asgK ps 1 ds.length k).1 ∧ cc = .int .i64 (asgK ps 1 ds.length k).2 ∧ Blk wr gb (gvs h (.slice da ds.length dc) nx (.slice pa ps.length pc) tk rc) ∧ Below w.heap.size w wr) (fun _ _ kk _ => 2 - (intOf kk).toNat)
    case atStart => exact ⟨0, rfl, by omega, rfl, rfl, FG.out, FB.out⟩
    case round =>
      obtain ⟨k, rfl, hk, rfl, rfl, h0, h1⟩ := hrel
      have FG : Hid (Blk wr gb (gvs h (.slice da ds.length dc) nx (.slice pa ps.length pc) tk rc)) := h0
      have FB : Hid (Below w.heap.size w wr) := h1
      clear h0 h1
      have kc : k = 0 ∨ k = 1 ∨ k = 2 := by omega
      rcases kc with q | q | q
      · subst q
        have x12 := FG.out.c 12 _ rfl
        go_wp2_with fail
        go_loopw [9, 10, 13] (fun bb cc ss wr => ∃ s : Nat, ss = .int .i64 s ∧ s ≤ ds.length ∧ bb = .int .i64 (asgRow ps 1 (0, 1) s).1 ∧ cc = .int .i64 (asgRow ps 1 (0, 1) s).2 ∧ Blk wr gb (gvs h (.slice da ds.length dc) nx (.slice pa ps.length pc) tk rc) ∧ Below w.heap.size w wr) (fun _ _ ss _ => ds.length - (intOf ss).toNat)
        case atStart => exact ⟨0, rfl, by omega, rfl, rfl, FG.out, FB.out⟩
        case round =>
          obtain ⟨s, rfl, hs, rfl, rfl, h0, h1⟩ := hrel
          have FG : Hid (Blk wr gb (gvs h (.slice da ds.length dc) nx (.slice pa ps.length pc) tk rc)) := h0
          have FB : Hid (Below w.heap.size w wr) := h1
          clear h0 h1
          have x12 := FG.out.c 12 _ rfl
          by_cases hlt : s < ds.length
          · obtain ⟨x, hx⟩ : ∃ x, (asgRow ps 1 (0, 1) s).1 = x := ⟨_, rfl⟩
            obtain ⟨y, hy⟩ : ∃ y, (asgRow ps 1 (0, 1) s).2 = y := ⟨_, rfl⟩
            have HX := asgRow_next hx hy
            rw [hx, hy]
            clear hx hy
            by_cases c : busy ps s 1 < busy ps x y
            · have lt : decide (busy ps s 1 < busy ps x y) = true := decide_eq_true c
              have HT : Hid (Value.int .i64 (s : Int) = .int .i64 (asgRow ps 1 (0, 1) (s + 1)).1 ∧ Value.int .i64 1 = .int .i64 (asgRow ps 1 (0, 1) (s + 1)).2) := by rw [HX, if_pos c]; exact ⟨rfl, rfl⟩
              clear HX c
              go_wp2_with fail
              have FG : Hid (Blk wr.drew gb (gvs h (.slice da ds.length dc) nx (.slice pa ps.length pc) tk rc)) := FG.out.below (Below.refl _ _).drew FG.out.lt
              have FB : Hid (Below w.heap.size w wr.drew) := FB.out.drew
              have m14 := FG.out.c 14 _ rfl
              refine wp_region_held_drew (S := (fun w'' => w''.cell? ⟨gb, 14, none⟩ = some (.slice pa ps.length pc))) (by kernel_rfl) (by (try dsimp only); first | exact m14 | go_keep) (fun hHeld => ?_)
              obtain ⟨v_13, hw1⟩ : ∃ v_13, v_13 = wr.drew := ⟨_, rfl⟩
              have FG : Hid (Blk v_13 gb (gvs h (.slice da ds.length dc) nx (.slice pa ps.length pc) tk rc)) := by rw [hw1]; exact FG.out
              have FB : Hid (Below w.heap.size w v_13) := by rw [hw1]; exact FB.out
              rw [← hw1] at hHeld ⊢
              clear hw1
              have m14 := FG.out.c 14 _ rfl
              refine tkz 0 rfl ?_
              refine tkz 1 rfl ?_
              refine tkz 2 rfl ?_
              refine tkz 3 rfl ?_
              refine tkz 4 rfl ?_
              refine tkz 6 rfl ?_
              refine tkz 7 rfl ?_
              refine tkz 8 rfl ?_
              refine tkz 9 rfl ?_
              refine tkz 10 rfl ?_
              refine wpAnyH_ready (rs := [5]) (by kernel_rfl) (by simp) ?_
              refine (AllReadyH.cons rfl (fun K hK => ?_) AllReadyH.nil)
              go_simp
              refine (l8Busy_any gb 13 nx pa pc ps _ _ hlp _ ⟨FG.out.c 13 _ rfl, FG.out.c 14 _ rfl⟩ ((HP.out.below FB.out (Nat.le_refl _)).mono FB.out.size)).mono ?_
              rintro e v_14 ⟨rfl, hb⟩
              have FG : Hid (Blk v_14 gb (gvs h (.slice da ds.length dc) nx (.slice pa ps.length pc) tk rc)) := FG.out.below hb FG.out.lt
              have FB : Hid (Below w.heap.size w v_14) := FB.out.trans (hb.mono FB.out.size)
              clear hb
              have m14 := FG.out.c 14 _ rfl
              try dsimp only
              refine hK.out _ _ (by (try dsimp only); first | exact m14 | go_keep) (fun hHeld => ?_)
              clear hK K
              try simp only [Act.put, List.getElem_toArray, List.getElem_cons_succ, List.getElem_cons_zero, List.setIfInBounds_toArray, List.set_cons_zero, List.set_cons_succ]
              refine wpAnyH_ready (rs := [11]) (by kernel_rfl) (by simp) ?_
              refine (AllReadyH.cons rfl (fun K hK => ?_) AllReadyH.nil)
              go_simp
              refine (l8Busy_any gb 13 nx pa pc ps _ _ hlp _ ⟨FG.out.c 13 _ rfl, FG.out.c 14 _ rfl⟩ ((HP.out.below FB.out (Nat.le_refl _)).mono FB.out.size)).mono ?_
              rintro e v_15 ⟨rfl, hb⟩
              have FG : Hid (Blk v_15 gb (gvs h (.slice da ds.length dc) nx (.slice pa ps.length pc) tk rc)) := FG.out.below hb FG.out.lt
              have FB : Hid (Below w.heap.size w v_15) := FB.out.trans (hb.mono FB.out.size)
              clear hb
              have m14 := FG.out.c 14 _ rfl
              try dsimp only
              refine hK.out _ _ (by (try dsimp only); first | exact m14 | go_keep) (fun hHeld => ?_)
              clear hK K
              try simp only [Act.put, List.getElem_toArray, List.getElem_cons_succ, List.getElem_cons_zero, List.setIfInBounds_toArray, List.set_cons_zero, List.set_cons_succ]
              refine tkz 12 rfl ?_
              refine wpAnyH_done (by kernel_rfl) ?_ _
              go_wp2_with fail
              go_roundw
              case rel => ((repeat apply Exists.intro); exact ⟨⟨s + 1, by simp, by omega, HT.out.1, HT.out.2, FG.out, FB.out⟩, rfl⟩)
              case measure => simp [intOf]; omega
            · have lt : decide (busy ps s 1 < busy ps x y) = false := decide_eq_false c
              have HT : Hid (Value.int .i64 x = .int .i64 (asgRow ps 1 (0, 1) (s + 1)).1 ∧ Value.int .i64 y = .int .i64 (asgRow ps 1 (0, 1) (s + 1)).2) := by rw [HX, if_neg c]; exact ⟨rfl, rfl⟩
              clear HX c
              go_wp2_with fail
              have FG : Hid (Blk wr.drew gb (gvs h (.slice da ds.length dc) nx (.slice pa ps.length pc) tk rc)) := FG.out.below (Below.refl _ _).drew FG.out.lt
              have FB : Hid (Below w.heap.size w wr.drew) := FB.out.drew
              have m14 := FG.out.c 14 _ rfl
              refine wp_region_held_drew (S := (fun w'' => w''.cell? ⟨gb, 14, none⟩ = some (.slice pa ps.length pc))) (by kernel_rfl) (by (try dsimp only); first | exact m14 | go_keep) (fun hHeld => ?_)
              obtain ⟨v_16, hw1⟩ : ∃ v_16, v_16 = wr.drew := ⟨_, rfl⟩
              have FG : Hid (Blk v_16 gb (gvs h (.slice da ds.length dc) nx (.slice pa ps.length pc) tk rc)) := by rw [hw1]; exact FG.out
              have FB : Hid (Below w.heap.size w v_16) := by rw [hw1]; exact FB.out
              rw [← hw1] at hHeld ⊢
              clear hw1
              have m14 := FG.out.c 14 _ rfl
              refine tkz 0 rfl ?_
              refine tkz 1 rfl ?_
              refine tkz 2 rfl ?_
              refine tkz 3 rfl ?_
              refine tkz 4 rfl ?_
              refine tkz 6 rfl ?_
              refine tkz 7 rfl ?_
              refine tkz 8 rfl ?_
              refine tkz 9 rfl ?_
              refine tkz 10 rfl ?_
              refine wpAnyH_ready (rs := [5]) (by kernel_rfl) (by simp) ?_
              refine (AllReadyH.cons rfl (fun K hK => ?_) AllReadyH.nil)
              go_simp
              refine (l8Busy_any gb 13 nx pa pc ps _ _ hlp _ ⟨FG.out.c 13 _ rfl, FG.out.c 14 _ rfl⟩ ((HP.out.below FB.out (Nat.le_refl _)).mono FB.out.size)).mono ?_
              rintro e v_17 ⟨rfl, hb⟩
              have FG : Hid (Blk v_17 gb (gvs h (.slice da ds.length dc) nx (.slice pa ps.length pc) tk rc)) := FG.out.below hb FG.out.lt
              have FB : Hid (Below w.heap.size w v_17) := FB.out.trans (hb.mono FB.out.size)
              clear hb
              have m14 := FG.out.c 14 _ rfl
              try dsimp only
              refine hK.out _ _ (by (try dsimp only); first | exact m14 | go_keep) (fun hHeld => ?_)
              clear hK K
              try simp only [Act.put, List.getElem_toArray, List.getElem_cons_succ, List.getElem_cons_zero, List.setIfInBounds_toArray, List.set_cons_zero, List.set_cons_succ]
              refine wpAnyH_ready (rs := [11]) (by kernel_rfl) (by simp) ?_
              refine (AllReadyH.cons rfl (fun K hK => ?_) AllReadyH.nil)
              go_simp
              refine (l8Busy_any gb 13 nx pa pc ps _ _ hlp _ ⟨FG.out.c 13 _ rfl, FG.out.c 14 _ rfl⟩ ((HP.out.below FB.out (Nat.le_refl _)).mono FB.out.size)).mono ?_
              rintro e v_18 ⟨rfl, hb⟩
              have FG : Hid (Blk v_18 gb (gvs h (.slice da ds.length dc) nx (.slice pa ps.length pc) tk rc)) := FG.out.below hb FG.out.lt
              have FB : Hid (Below w.heap.size w v_18) := FB.out.trans (hb.mono FB.out.size)
              clear hb
              have m14 := FG.out.c 14 _ rfl
              try dsimp only
              refine hK.out _ _ (by (try dsimp only); first | exact m14 | go_keep) (fun hHeld => ?_)
              clear hK K
              try simp only [Act.put, List.getElem_toArray, List.getElem_cons_succ, List.getElem_cons_zero, List.setIfInBounds_toArray, List.set_cons_zero, List.set_cons_succ]
              refine tkz 12 rfl ?_
              refine wpAnyH_done (by kernel_rfl) ?_ _
              go_wp2_with fail
              go_roundw
              case rel => ((repeat apply Exists.intro); exact ⟨⟨s + 1, by simp, by omega, HT.out.1, HT.out.2, FG.out, FB.out⟩, rfl⟩)
              case measure => simp [intOf]; omega
          · have es : s = ds.length := by omega
            subst es
            go_wp2_with fail
            go_roundw
            case rel => exact ⟨1, by simp, by omega, rfl, rfl, FG.out, FB.out⟩
            case measure => simp [intOf]
      · subst q
        have x12 := FG.out.c 12 _ rfl
        go_wp2_with fail
        go_loopw [9, 10, 13] (fun bb cc ss wr => ∃ s : Nat, ss = .int .i64 s ∧ s ≤ ds.length ∧ bb = .int .i64 (asgRow ps 0 (asgRow ps 1 (0, 1) ds.length) s).1 ∧ cc = .int .i64 (asgRow ps 0 (asgRow ps 1 (0, 1) ds.length) s).2 ∧ Blk wr gb (gvs h (.slice da ds.length dc) nx (.slice pa ps.length pc) tk rc) ∧ Below w.heap.size w wr) (fun _ _ ss _ => ds.length - (intOf ss).toNat)
        case atStart => exact ⟨0, rfl, by omega, rfl, rfl, FG.out, FB.out⟩
        case round =>
          obtain ⟨s, rfl, hs, rfl, rfl, h0, h1⟩ := hrel
          have FG : Hid (Blk wr gb (gvs h (.slice da ds.length dc) nx (.slice pa ps.length pc) tk rc)) := h0
          have FB : Hid (Below w.heap.size w wr) := h1
          clear h0 h1
          have x12 := FG.out.c 12 _ rfl
          by_cases hlt : s < ds.length
          · obtain ⟨x, hx⟩ : ∃ x, (asgRow ps 0 (asgRow ps 1 (0, 1) ds.length) s).1 = x := ⟨_, rfl⟩
            obtain ⟨y, hy⟩ : ∃ y, (asgRow ps 0 (asgRow ps 1 (0, 1) ds.length) s).2 = y := ⟨_, rfl⟩
            have HX := asgRow_next hx hy
            rw [hx, hy]
            clear hx hy
            by_cases c : busy ps s 0 < busy ps x y
            · have lt : decide (busy ps s 0 < busy ps x y) = true := decide_eq_true c
              have HT : Hid (Value.int .i64 (s : Int) = .int .i64 (asgRow ps 0 (asgRow ps 1 (0, 1) ds.length) (s + 1)).1 ∧ Value.int .i64 0 = .int .i64 (asgRow ps 0 (asgRow ps 1 (0, 1) ds.length) (s + 1)).2) := by rw [HX, if_pos c]; exact ⟨rfl, rfl⟩
              clear HX c
              go_wp2_with fail
              have FG : Hid (Blk wr.drew gb (gvs h (.slice da ds.length dc) nx (.slice pa ps.length pc) tk rc)) := FG.out.below (Below.refl _ _).drew FG.out.lt
              have FB : Hid (Below w.heap.size w wr.drew) := FB.out.drew
              have m14 := FG.out.c 14 _ rfl
              refine wp_region_held_drew (S := (fun w'' => w''.cell? ⟨gb, 14, none⟩ = some (.slice pa ps.length pc))) (by kernel_rfl) (by (try dsimp only); first | exact m14 | go_keep) (fun hHeld => ?_)
              obtain ⟨v_19, hw1⟩ : ∃ v_19, v_19 = wr.drew := ⟨_, rfl⟩
              have FG : Hid (Blk v_19 gb (gvs h (.slice da ds.length dc) nx (.slice pa ps.length pc) tk rc)) := by rw [hw1]; exact FG.out
              have FB : Hid (Below w.heap.size w v_19) := by rw [hw1]; exact FB.out
              rw [← hw1] at hHeld ⊢
              clear hw1
              have m14 := FG.out.c 14 _ rfl
              refine tkz 0 rfl ?_
              refine tkz 1 rfl ?_
              refine tkz 2 rfl ?_
              refine tkz 3 rfl ?_
              refine tkz 4 rfl ?_
              refine tkz 6 rfl ?_
              refine tkz 7 rfl ?_
              refine tkz 8 rfl ?_
              refine tkz 9 rfl ?_
              refine tkz 10 rfl ?_
              refine wpAnyH_ready (rs := [5]) (by kernel_rfl) (by simp) ?_
              refine (AllReadyH.cons rfl (fun K hK => ?_) AllReadyH.nil)
              go_simp
              refine (l8Busy_any gb 13 nx pa pc ps _ _ hlp _ ⟨FG.out.c 13 _ rfl, FG.out.c 14 _ rfl⟩ ((HP.out.below FB.out (Nat.le_refl _)).mono FB.out.size)).mono ?_
              rintro e v_20 ⟨rfl, hb⟩
              have FG : Hid (Blk v_20 gb (gvs h (.slice da ds.length dc) nx (.slice pa ps.length pc) tk rc)) := FG.out.below hb FG.out.lt
              have FB : Hid (Below w.heap.size w v_20) := FB.out.trans (hb.mono FB.out.size)
              clear hb
              have m14 := FG.out.c 14 _ rfl
              try dsimp only
              refine hK.out _ _ (by (try dsimp only); first | exact m14 | go_keep) (fun hHeld => ?_)
              clear hK K
              try simp only [Act.put, List.getElem_toArray, List.getElem_cons_succ, List.getElem_cons_zero, List.setIfInBounds_toArray, List.set_cons_zero, List.set_cons_succ]
              refine wpAnyH_ready (rs := [11]) (by kernel_rfl) (by simp) ?_
              refine (AllReadyH.cons rfl (fun K hK => ?_) AllReadyH.nil)
              go_simp
              refine (l8Busy_any gb 13 nx pa pc ps _ _ hlp _ ⟨FG.out.c 13 _ rfl, FG.out.c 14 _ rfl⟩ ((HP.out.below FB.out (Nat.le_refl _)).mono FB.out.size)).mono ?_
              rintro e v_21 ⟨rfl, hb⟩
              have FG : Hid (Blk v_21 gb (gvs h (.slice da ds.length dc) nx (.slice pa ps.length pc) tk rc)) := FG.out.below hb FG.out.lt
              have FB : Hid (Below w.heap.size w v_21) := FB.out.trans (hb.mono FB.out.size)
              clear hb
              have m14 := FG.out.c 14 _ rfl
              try dsimp only
              refine hK.out _ _ (by (try dsimp only); first | exact m14 | go_keep) (fun hHeld => ?_)
              clear hK K
              try simp only [Act.put, List.getElem_toArray, List.getElem_cons_succ, List.getElem_cons_zero, List.setIfInBounds_toArray, List.set_cons_zero, List.set_cons_succ]
              refine tkz 12 rfl ?_
              refine wpAnyH_done (by kernel_rfl) ?_ _
              go_wp2_with fail
              go_roundw
              case rel => ((repeat apply Exists.intro); exact ⟨⟨s + 1, by simp, by omega, HT.out.1, HT.out.2, FG.out, FB.out⟩, rfl⟩)
              case measure => simp [intOf]; omega
            · have lt : decide (busy ps s 0 < busy ps x y) = false := decide_eq_false c
              have HT : Hid (Value.int .i64 x = .int .i64 (asgRow ps 0 (asgRow ps 1 (0, 1) ds.length) (s + 1)).1 ∧ Value.int .i64 y = .int .i64 (asgRow ps 0 (asgRow ps 1 (0, 1) ds.length) (s + 1)).2) := by rw [HX, if_neg c]; exact ⟨rfl, rfl⟩
              clear HX c
              go_wp2_with fail
              have FG : Hid (Blk wr.drew gb (gvs h (.slice da ds.length dc) nx (.slice pa ps.length pc) tk rc)) := FG.out.below (Below.refl _ _).drew FG.out.lt
              have FB : Hid (Below w.heap.size w wr.drew) := FB.out.drew
              have m14 := FG.out.c 14 _ rfl
              refine wp_region_held_drew (S := (fun w'' => w''.cell? ⟨gb, 14, none⟩ = some (.slice pa ps.length pc))) (by kernel_rfl) (by (try dsimp only); first | exact m14 | go_keep) (fun hHeld => ?_)
              obtain ⟨v_22, hw1⟩ : ∃ v_22, v_22 = wr.drew := ⟨_, rfl⟩
              have FG : Hid (Blk v_22 gb (gvs h (.slice da ds.length dc) nx (.slice pa ps.length pc) tk rc)) := by rw [hw1]; exact FG.out
              have FB : Hid (Below w.heap.size w v_22) := by rw [hw1]; exact FB.out
              rw [← hw1] at hHeld ⊢
              clear hw1
              have m14 := FG.out.c 14 _ rfl
              refine tkz 0 rfl ?_
              refine tkz 1 rfl ?_
              refine tkz 2 rfl ?_
              refine tkz 3 rfl ?_
              refine tkz 4 rfl ?_
              refine tkz 6 rfl ?_
              refine tkz 7 rfl ?_
              refine tkz 8 rfl ?_
              refine tkz 9 rfl ?_
              refine tkz 10 rfl ?_
              refine wpAnyH_ready (rs := [5]) (by kernel_rfl) (by simp) ?_
              refine (AllReadyH.cons rfl (fun K hK => ?_) AllReadyH.nil)
              go_simp
              refine (l8Busy_any gb 13 nx pa pc ps _ _ hlp _ ⟨FG.out.c 13 _ rfl, FG.out.c 14 _ rfl⟩ ((HP.out.below FB.out (Nat.le_refl _)).mono FB.out.size)).mono ?_
              rintro e v_23 ⟨rfl, hb⟩
              have FG : Hid (Blk v_23 gb (gvs h (.slice da ds.length dc) nx (.slice pa ps.length pc) tk rc)) := FG.out.below hb FG.out.lt
              have FB : Hid (Below w.heap.size w v_23) := FB.out.trans (hb.mono FB.out.size)
              clear hb
              have m14 := FG.out.c 14 _ rfl
              try dsimp only
              refine hK.out _ _ (by (try dsimp only); first | exact m14 | go_keep) (fun hHeld => ?_)
              clear hK K
              try simp only [Act.put, List.getElem_toArray, List.getElem_cons_succ, List.getElem_cons_zero, List.setIfInBounds_toArray, List.set_cons_zero, List.set_cons_succ]
              refine wpAnyH_ready (rs := [11]) (by kernel_rfl) (by simp) ?_
              refine (AllReadyH.cons rfl (fun K hK => ?_) AllReadyH.nil)
              go_simp
              refine (l8Busy_any gb 13 nx pa pc ps _ _ hlp _ ⟨FG.out.c 13 _ rfl, FG.out.c 14 _ rfl⟩ ((HP.out.below FB.out (Nat.le_refl _)).mono FB.out.size)).mono ?_
              rintro e v_24 ⟨rfl, hb⟩
              have FG : Hid (Blk v_24 gb (gvs h (.slice da ds.length dc) nx (.slice pa ps.length pc) tk rc)) := FG.out.below hb FG.out.lt
              have FB : Hid (Below w.heap.size w v_24) := FB.out.trans (hb.mono FB.out.size)
              clear hb
              have m14 := FG.out.c 14 _ rfl
              try dsimp only
              refine hK.out _ _ (by (try dsimp only); first | exact m14 | go_keep) (fun hHeld => ?_)
              clear hK K
              try simp only [Act.put, List.getElem_toArray, List.getElem_cons_succ, List.getElem_cons_zero, List.setIfInBounds_toArray, List.set_cons_zero, List.set_cons_succ]
              refine tkz 12 rfl ?_
              refine wpAnyH_done (by kernel_rfl) ?_ _
              go_wp2_with fail
              go_roundw
              case rel => ((repeat apply Exists.intro); exact ⟨⟨s + 1, by simp, by omega, HT.out.1, HT.out.2, FG.out, FB.out⟩, rfl⟩)
              case measure => simp [intOf]; omega
          · have es : s = ds.length := by omega
            subst es
            go_wp2_with fail
            go_roundw
            case rel => exact ⟨2, by simp, by omega, rfl, rfl, FG.out, FB.out⟩
            case measure => simp [intOf]
      · subst q
        go_wp2_with fail
        exact bodyPost_ret (v := .tuple #[.int .i64 (asgK ps 1 ds.length 2).1, .int .i64 (asgK ps 1 ds.length 2).2]) (by simp [results, Tryz.results18, go_sem]) rfl ⟨rfl, FB.out⟩
theorem call_parts {h : Hs} {f t : Int} (hf : h.fault = 0) (e : Hs.call h f t = 0) : (0 ≤ f ∧ f ≤ h.fl - 1) ∧ 0 ≤ t ∧ t ≤ h.fl - 1 := by
  unfold Hs.call at e
  rw [if_pos hf] at e
  exact callC_parts e
end Go.Proofs.YtdkikijnjkoddaaGreat
