/-
  The program's guard: what is asked of a pair; MayGo.
-/
import Derived.Test.YtclfdfcakmgffaaGuardF
import Derived.Test.YtclfdfcakmgffaaGuardC
namespace Go.Proofs.Ytclfdfcakmgffaa
open Go.RowKit Pl
set_option linter.unusedSimpArgs false
set_option linter.unusedVariables false

set_option maxRecDepth 20000 in
set_option maxHeartbeats 8000000 in
theorem or_three (x y z : Int) (b : Nat) (w : World) (c0 : w.cell? ⟨b, 0, none⟩ = some (.int .i64 x)) (c1 : w.cell? ⟨b, 1, none⟩ = some (.int .i64 y)) (c2 : w.cell? ⟨b, 2, none⟩ = some (.int .i64 z)) :
    Calls Try.prog 27 #[.slice (some ⟨b, 0, none⟩) 3 3] w fun e w' => e = .returned (.int .i64 (if x = 0 then (if y = 0 then z else y) else x)) ∧ w' = w := by
  obtain ⟨r, hr⟩ : ∃ r, (if x = 0 then (if y = 0 then z else y) else x) = r := ⟨_, rfl⟩
  rw [hr]
  have HR : Hid ((if x = 0 then (if y = 0 then z else y) else x) = r) := hr
  clear hr
  go_enter Try.func27, Try.ntmps27
  go_wp2
  go_loop [8] (fun i => i = .int .i64 0 ∨ (i = .int .i64 1 ∧ x = 0) ∨ (i = .int .i64 2 ∧ x = 0 ∧ y = 0) ∨ (i = .int .i64 3 ∧ x = 0 ∧ y = 0 ∧ z = 0)) (fun i => (3 - intOf i).toNat)
  case atStart => exact Or.inl rfl
  case round =>
    rcases hrel with h | ⟨h, hx⟩ | ⟨h, hx, hy⟩ | ⟨h, hx, hy, hz⟩
    · subst h
      by_cases hx : x = 0
      · subst hx
        go_wp2
        go_round
        case rel => exact Or.inr (Or.inl (by simp))
        case measure => simp [intOf]
      · have hn : (x != 0) = true := by simpa using hx
        have he : r = x := by rw [← HR.out, if_neg hx]
        subst he
        clear hx HR
        go_wp2
        go_ret
        exact ⟨rfl, rfl⟩
    · subst h
      subst hx
      by_cases hy : y = 0
      · subst hy
        go_wp2
        go_round
        case rel => exact Or.inr (Or.inr (Or.inl (by simp)))
        case measure => simp [intOf]
      · have hn : (y != 0) = true := by simpa using hy
        have he : r = y := by rw [← HR.out, if_pos rfl, if_neg hy]
        subst he
        clear hy HR
        go_wp2
        go_ret
        exact ⟨rfl, rfl⟩
    · subst h
      subst hx
      subst hy
      by_cases hz : z = 0
      · subst hz
        go_wp2
        go_round
        case rel => exact Or.inr (Or.inr (Or.inr (by simp)))
        case measure => simp [intOf]
      · have hn : (z != 0) = true := by simpa using hz
        have he : r = z := by rw [← HR.out, if_pos rfl, if_pos rfl]
        subst he
        clear hz HR
        go_wp2
        go_ret
        exact ⟨rfl, rfl⟩
    · subst h
      subst hx
      subst hy
      subst hz
      have he : r = 0 := by rw [← HR.out, if_pos rfl, if_pos rfl]
      subst he
      clear HR
      go_wp2
      go_ret
      exact ⟨rfl, rfl⟩
set_option maxRecDepth 20000 in
set_option maxHeartbeats 8000000 in
theorem pairFault_any (h : Hs) (s : Sh) (a b : Cm) (w : World) :
    Calls Try.prog 37 #[.agg #[.int .i64 h.fl, .int .i64 h.gp, .int .i64 h.ln, .int .i64 h.rf, .int .i64 h.sp, .int .i64 h.pu, .int .i64 h.br, .int .i64 h.dr, .int .i64 h.lv, .int .i64 h.dO, .int .i64 h.ld, .int .i64 h.qu], .agg #[.int .i64 s.lo.pos, .int .i64 s.lo.vel, .int .i64 s.lo.door, .int .i64 s.up.pos, .int .i64 s.up.vel, .int .i64 s.up.door], .agg #[.int .i64 a.push, .bool a.brk, .bool a.opn], .agg #[.int .i64 b.push, .bool b.brk, .bool b.opn]] w fun e w' => e = .returned (.int .i64 (Hs.pairK h s a b)) ∧ Below w.heap.size w w' := by
  obtain ⟨q, hq⟩ : ∃ q, Hs.pairK h s a b = q := ⟨_, rfl⟩
  have HQ : Hid ((if h.shaft s = 0 then (if h.cmd a = 0 then h.cmd b else h.cmd a) else h.shaft s) = q) := by rw [← hq]; exact rfl
  rw [hq]
  clear hq
  have F0 : Hid (HAt ((((w.alloc (.cells #[.int .i64 h.fl, .int .i64 h.gp, .int .i64 h.ln, .int .i64 h.rf, .int .i64 h.sp, .int .i64 h.pu, .int .i64 h.br, .int .i64 h.dr, .int .i64 h.lv, .int .i64 h.dO, .int .i64 h.ld, .int .i64 h.qu] 25)).alloc (.cells #[.int .i64 s.lo.pos, .int .i64 s.lo.vel, .int .i64 s.lo.door, .int .i64 s.up.pos, .int .i64 s.up.vel, .int .i64 s.up.door] 40)).alloc (.cells #[.int .i64 a.push, .bool a.brk, .bool a.opn] 29)).alloc (.cells #[.int .i64 b.push, .bool b.brk, .bool b.opn] 29)).drew w.heap.size h) := ((((HAt.at_ w h _ _ (by simp)).alloc _).alloc _).alloc _).drew
  have F1 : Hid (SW ((((w.alloc (.cells #[.int .i64 h.fl, .int .i64 h.gp, .int .i64 h.ln, .int .i64 h.rf, .int .i64 h.sp, .int .i64 h.pu, .int .i64 h.br, .int .i64 h.dr, .int .i64 h.lv, .int .i64 h.dO, .int .i64 h.ld, .int .i64 h.qu] 25)).alloc (.cells #[.int .i64 s.lo.pos, .int .i64 s.lo.vel, .int .i64 s.lo.door, .int .i64 s.up.pos, .int .i64 s.up.vel, .int .i64 s.up.door] 40)).alloc (.cells #[.int .i64 a.push, .bool a.brk, .bool a.opn] 29)).alloc (.cells #[.int .i64 b.push, .bool b.brk, .bool b.opn] 29)).drew (w.heap.size + 1) s) := (((SW.at_ (w.alloc (.cells #[.int .i64 h.fl, .int .i64 h.gp, .int .i64 h.ln, .int .i64 h.rf, .int .i64 h.sp, .int .i64 h.pu, .int .i64 h.br, .int .i64 h.dr, .int .i64 h.lv, .int .i64 h.dO, .int .i64 h.ld, .int .i64 h.qu] 25)) s _ _ (by simp)).alloc _).alloc _).drew
  have F2 : Hid (XW ((((w.alloc (.cells #[.int .i64 h.fl, .int .i64 h.gp, .int .i64 h.ln, .int .i64 h.rf, .int .i64 h.sp, .int .i64 h.pu, .int .i64 h.br, .int .i64 h.dr, .int .i64 h.lv, .int .i64 h.dO, .int .i64 h.ld, .int .i64 h.qu] 25)).alloc (.cells #[.int .i64 s.lo.pos, .int .i64 s.lo.vel, .int .i64 s.lo.door, .int .i64 s.up.pos, .int .i64 s.up.vel, .int .i64 s.up.door] 40)).alloc (.cells #[.int .i64 a.push, .bool a.brk, .bool a.opn] 29)).alloc (.cells #[.int .i64 b.push, .bool b.brk, .bool b.opn] 29)).drew (w.heap.size + 2) a) := ((XW.at_ ((w.alloc (.cells #[.int .i64 h.fl, .int .i64 h.gp, .int .i64 h.ln, .int .i64 h.rf, .int .i64 h.sp, .int .i64 h.pu, .int .i64 h.br, .int .i64 h.dr, .int .i64 h.lv, .int .i64 h.dO, .int .i64 h.ld, .int .i64 h.qu] 25)).alloc (.cells #[.int .i64 s.lo.pos, .int .i64 s.lo.vel, .int .i64 s.lo.door, .int .i64 s.up.pos, .int .i64 s.up.vel, .int .i64 s.up.door] 40)) a _ _ (by simp)).alloc _).drew
  have F3 : Hid (XW ((((w.alloc (.cells #[.int .i64 h.fl, .int .i64 h.gp, .int .i64 h.ln, .int .i64 h.rf, .int .i64 h.sp, .int .i64 h.pu, .int .i64 h.br, .int .i64 h.dr, .int .i64 h.lv, .int .i64 h.dO, .int .i64 h.ld, .int .i64 h.qu] 25)).alloc (.cells #[.int .i64 s.lo.pos, .int .i64 s.lo.vel, .int .i64 s.lo.door, .int .i64 s.up.pos, .int .i64 s.up.vel, .int .i64 s.up.door] 40)).alloc (.cells #[.int .i64 a.push, .bool a.brk, .bool a.opn] 29)).alloc (.cells #[.int .i64 b.push, .bool b.brk, .bool b.opn] 29)).drew (w.heap.size + 3) b) := (XW.at_ (((w.alloc (.cells #[.int .i64 h.fl, .int .i64 h.gp, .int .i64 h.ln, .int .i64 h.rf, .int .i64 h.sp, .int .i64 h.pu, .int .i64 h.br, .int .i64 h.dr, .int .i64 h.lv, .int .i64 h.dO, .int .i64 h.ld, .int .i64 h.qu] 25)).alloc (.cells #[.int .i64 s.lo.pos, .int .i64 s.lo.vel, .int .i64 s.lo.door, .int .i64 s.up.pos, .int .i64 s.up.vel, .int .i64 s.up.door] 40)).alloc (.cells #[.int .i64 a.push, .bool a.brk, .bool a.opn] 29)) b _ _ (by simp)).drew
  have FB : Hid (Below w.heap.size w ((((w.alloc (.cells #[.int .i64 h.fl, .int .i64 h.gp, .int .i64 h.ln, .int .i64 h.rf, .int .i64 h.sp, .int .i64 h.pu, .int .i64 h.br, .int .i64 h.dr, .int .i64 h.lv, .int .i64 h.dO, .int .i64 h.ld, .int .i64 h.qu] 25)).alloc (.cells #[.int .i64 s.lo.pos, .int .i64 s.lo.vel, .int .i64 s.lo.door, .int .i64 s.up.pos, .int .i64 s.up.vel, .int .i64 s.up.door] 40)).alloc (.cells #[.int .i64 a.push, .bool a.brk, .bool a.opn] 29)).alloc (.cells #[.int .i64 b.push, .bool b.brk, .bool b.opn] 29)).drew) := (((((Below.refl _ _).alloc (Nat.le_refl _) _).alloc (by simp <;> omega) _).alloc (by simp <;> omega) _).alloc (by simp <;> omega) _).drew
  obtain ⟨x0_0, x0_1, x0_2, x0_3, x0_4, x0_5, x0_6, x0_7, x0_8, x0_9, x0_10, x0_11⟩ := F0.out
  obtain ⟨x1_0, x1_1, x1_2, x1_3, x1_4, x1_5, y1_0, y1_1, y1_2, y1_3, y1_4, y1_5⟩ := F1.out
  obtain ⟨x2_0, x2_1, x2_2, y2_0, y2_1, y2_2⟩ := F2.out
  obtain ⟨x3_0, x3_1, x3_2, y3_0, y3_1, y3_2⟩ := F3.out
  go_enter Try.func37, Try.ntmps37
  go_wp2_with fail
  refine wp_region_held_drew (S := (fun w'' => w''.cell? ⟨w.heap.size, 0, none⟩ = some (.int .i64 h.fl) ∧ w''.cell? ⟨w.heap.size, 1, none⟩ = some (.int .i64 h.gp) ∧ w''.cell? ⟨w.heap.size, 2, none⟩ = some (.int .i64 h.ln) ∧ w''.cell? ⟨w.heap.size, 3, none⟩ = some (.int .i64 h.rf) ∧ w''.cell? ⟨w.heap.size, 4, none⟩ = some (.int .i64 h.sp) ∧ w''.cell? ⟨w.heap.size, 5, none⟩ = some (.int .i64 h.pu) ∧ w''.cell? ⟨w.heap.size, 6, none⟩ = some (.int .i64 h.br) ∧ w''.cell? ⟨w.heap.size, 7, none⟩ = some (.int .i64 h.dr) ∧ w''.cell? ⟨w.heap.size, 8, none⟩ = some (.int .i64 h.lv) ∧ w''.cell? ⟨w.heap.size, 9, none⟩ = some (.int .i64 h.dO) ∧ w''.cell? ⟨w.heap.size, 10, none⟩ = some (.int .i64 h.ld) ∧ w''.cell? ⟨w.heap.size, 11, none⟩ = some (.int .i64 h.qu) ∧ w''.cell? ⟨(w.heap.size + 1), 0, none⟩ = some (.int .i64 s.lo.pos) ∧ w''.cell? ⟨(w.heap.size + 1), 1, none⟩ = some (.int .i64 s.lo.vel) ∧ w''.cell? ⟨(w.heap.size + 1), 2, none⟩ = some (.int .i64 s.lo.door) ∧ w''.cell? ⟨(w.heap.size + 1), 3, none⟩ = some (.int .i64 s.up.pos) ∧ w''.cell? ⟨(w.heap.size + 1), 4, none⟩ = some (.int .i64 s.up.vel) ∧ w''.cell? ⟨(w.heap.size + 1), 5, none⟩ = some (.int .i64 s.up.door) ∧ w''.cell? ⟨(w.heap.size + 2), 0, none⟩ = some (.int .i64 a.push) ∧ w''.cell? ⟨(w.heap.size + 2), 1, none⟩ = some (.bool a.brk) ∧ w''.cell? ⟨(w.heap.size + 2), 2, none⟩ = some (.bool a.opn) ∧ w''.cell? ⟨(w.heap.size + 3), 0, none⟩ = some (.int .i64 b.push) ∧ w''.cell? ⟨(w.heap.size + 3), 1, none⟩ = some (.bool b.brk) ∧ w''.cell? ⟨(w.heap.size + 3), 2, none⟩ = some (.bool b.opn))) (by kernel_rfl) (by (try dsimp only); first | exact ⟨x0_0, x0_1, x0_2, x0_3, x0_4, x0_5, x0_6, x0_7, x0_8, x0_9, x0_10, x0_11, x1_0, x1_1, x1_2, x1_3, x1_4, x1_5, x2_0, x2_1, x2_2, x3_0, x3_1, x3_2⟩ | go_keep) (fun hHeld => ?_)
  refine tkz 0 rfl ?_
  refine tkz 1 rfl ?_
  refine tkz 3 rfl ?_
  refine tkz 4 rfl ?_
  refine tkz 6 rfl ?_
  refine tkz 7 rfl ?_
  refine wpAnyH_ready (rs := [2]) (by kernel_rfl) (by simp) ?_
  refine AllReadyH.cons rfl (fun K hK => ?_) AllReadyH.nil
  go_simp
  refine (implShaftFault_any h s _).mono ?_
  rintro e w1 ⟨rfl, hb⟩
  have F0 : Hid (HAt w1 w.heap.size h) := F0.out.below hb F0.out.lt
  have F1 : Hid (SW w1 (w.heap.size + 1) s) := F1.out.below hb F1.out.lt
  have F2 : Hid (XW w1 (w.heap.size + 2) a) := F2.out.below hb F2.out.lt
  have F3 : Hid (XW w1 (w.heap.size + 3) b) := F3.out.below hb F3.out.lt
  have FB : Hid (Below w.heap.size w w1) := FB.out.trans (hb.mono FB.out.size)
  obtain ⟨x0_0, x0_1, x0_2, x0_3, x0_4, x0_5, x0_6, x0_7, x0_8, x0_9, x0_10, x0_11⟩ := F0.out
  obtain ⟨x1_0, x1_1, x1_2, x1_3, x1_4, x1_5, y1_0, y1_1, y1_2, y1_3, y1_4, y1_5⟩ := F1.out
  obtain ⟨x2_0, x2_1, x2_2, y2_0, y2_1, y2_2⟩ := F2.out
  obtain ⟨x3_0, x3_1, x3_2, y3_0, y3_1, y3_2⟩ := F3.out
  clear hb
  try go_wp2_with fail
  refine hK.out _ _ (by (try dsimp only); go_keep) (fun hHeld => ?_)
  clear hK K
  try simp only [Act.put, List.getElem_toArray, List.getElem_cons_succ, List.getElem_cons_zero, List.setIfInBounds_toArray, List.set_cons_zero, List.set_cons_succ]
  refine wpAnyH_ready (rs := [5]) (by kernel_rfl) (by simp) ?_
  refine AllReadyH.cons rfl (fun K hK => ?_) AllReadyH.nil
  go_simp
  refine (implCommandFault_any h a _).mono ?_
  rintro e w2 ⟨rfl, hb⟩
  have F0 : Hid (HAt w2 w.heap.size h) := F0.out.below hb F0.out.lt
  have F1 : Hid (SW w2 (w.heap.size + 1) s) := F1.out.below hb F1.out.lt
  have F2 : Hid (XW w2 (w.heap.size + 2) a) := F2.out.below hb F2.out.lt
  have F3 : Hid (XW w2 (w.heap.size + 3) b) := F3.out.below hb F3.out.lt
  have FB : Hid (Below w.heap.size w w2) := FB.out.trans (hb.mono FB.out.size)
  obtain ⟨x0_0, x0_1, x0_2, x0_3, x0_4, x0_5, x0_6, x0_7, x0_8, x0_9, x0_10, x0_11⟩ := F0.out
  obtain ⟨x1_0, x1_1, x1_2, x1_3, x1_4, x1_5, y1_0, y1_1, y1_2, y1_3, y1_4, y1_5⟩ := F1.out
  obtain ⟨x2_0, x2_1, x2_2, y2_0, y2_1, y2_2⟩ := F2.out
  obtain ⟨x3_0, x3_1, x3_2, y3_0, y3_1, y3_2⟩ := F3.out
  clear hb
  try go_wp2_with fail
  refine hK.out _ _ (by (try dsimp only); go_keep) (fun hHeld => ?_)
  clear hK K
  try simp only [Act.put, List.getElem_toArray, List.getElem_cons_succ, List.getElem_cons_zero, List.setIfInBounds_toArray, List.set_cons_zero, List.set_cons_succ]
  refine wpAnyH_ready (rs := [8]) (by kernel_rfl) (by simp) ?_
  refine AllReadyH.cons rfl (fun K hK => ?_) AllReadyH.nil
  go_simp
  refine (implCommandFault_any h b _).mono ?_
  rintro e w3 ⟨rfl, hb⟩
  have F0 : Hid (HAt w3 w.heap.size h) := F0.out.below hb F0.out.lt
  have F1 : Hid (SW w3 (w.heap.size + 1) s) := F1.out.below hb F1.out.lt
  have F2 : Hid (XW w3 (w.heap.size + 2) a) := F2.out.below hb F2.out.lt
  have F3 : Hid (XW w3 (w.heap.size + 3) b) := F3.out.below hb F3.out.lt
  have FB : Hid (Below w.heap.size w w3) := FB.out.trans (hb.mono FB.out.size)
  obtain ⟨x0_0, x0_1, x0_2, x0_3, x0_4, x0_5, x0_6, x0_7, x0_8, x0_9, x0_10, x0_11⟩ := F0.out
  obtain ⟨x1_0, x1_1, x1_2, x1_3, x1_4, x1_5, y1_0, y1_1, y1_2, y1_3, y1_4, y1_5⟩ := F1.out
  obtain ⟨x2_0, x2_1, x2_2, y2_0, y2_1, y2_2⟩ := F2.out
  obtain ⟨x3_0, x3_1, x3_2, y3_0, y3_1, y3_2⟩ := F3.out
  clear hb
  try go_wp2_with fail
  refine hK.out _ _ (by (try dsimp only); go_keep) (fun hHeld => ?_)
  clear hK K
  try simp only [Act.put, List.getElem_toArray, List.getElem_cons_succ, List.getElem_cons_zero, List.setIfInBounds_toArray, List.set_cons_zero, List.set_cons_succ]
  refine wpAnyH_ready (rs := [9]) (by kernel_rfl) (by simp) ?_
  refine AllReadyH.cons rfl (fun K hK => ?_) AllReadyH.nil
  go_simp
  have F0 : Hid (HAt (w3.alloc (.cells #[.int .i64 (h.shaft s), .int .i64 (h.cmd a), .int .i64 (h.cmd b)] 2)) w.heap.size h) := F0.out.alloc _
  have F1 : Hid (SW (w3.alloc (.cells #[.int .i64 (h.shaft s), .int .i64 (h.cmd a), .int .i64 (h.cmd b)] 2)) (w.heap.size + 1) s) := F1.out.alloc _
  have F2 : Hid (XW (w3.alloc (.cells #[.int .i64 (h.shaft s), .int .i64 (h.cmd a), .int .i64 (h.cmd b)] 2)) (w.heap.size + 2) a) := F2.out.alloc _
  have F3 : Hid (XW (w3.alloc (.cells #[.int .i64 (h.shaft s), .int .i64 (h.cmd a), .int .i64 (h.cmd b)] 2)) (w.heap.size + 3) b) := F3.out.alloc _
  have FB : Hid (Below w.heap.size w (w3.alloc (.cells #[.int .i64 (h.shaft s), .int .i64 (h.cmd a), .int .i64 (h.cmd b)] 2))) := FB.out.alloc FB.out.size _
  obtain ⟨x0_0, x0_1, x0_2, x0_3, x0_4, x0_5, x0_6, x0_7, x0_8, x0_9, x0_10, x0_11⟩ := F0.out
  obtain ⟨x1_0, x1_1, x1_2, x1_3, x1_4, x1_5, y1_0, y1_1, y1_2, y1_3, y1_4, y1_5⟩ := F1.out
  obtain ⟨x2_0, x2_1, x2_2, y2_0, y2_1, y2_2⟩ := F2.out
  obtain ⟨x3_0, x3_1, x3_2, y3_0, y3_1, y3_2⟩ := F3.out
  refine hK.out _ _ (by (try dsimp only); go_keep) (fun hHeld => ?_)
  clear hK K
  try simp only [Act.put, List.getElem_toArray, List.getElem_cons_succ, List.getElem_cons_zero, List.setIfInBounds_toArray, List.set_cons_zero, List.set_cons_succ]
  refine wpAnyH_ready (rs := [10]) (by kernel_rfl) (by simp) ?_
  refine AllReadyH.cons rfl (fun K hK => ?_) AllReadyH.nil
  go_simp
  refine (or_three (h.shaft s) (h.cmd a) (h.cmd b) _ _ (by simp) (by simp) (by simp)).mono ?_
  rw [HQ.out]
  rintro e w' ⟨rfl, hw⟩
  obtain rfl := hw.symm
  clear hw
  try go_wp2_with fail
  refine hK.out _ _ (by (try dsimp only); go_keep) (fun hHeld => ?_)
  clear hK K
  try simp only [Act.put, List.getElem_toArray, List.getElem_cons_succ, List.getElem_cons_zero, List.setIfInBounds_toArray, List.set_cons_zero, List.set_cons_succ]
  refine tkz 11 rfl ?_
  refine wpAnyH_done (by kernel_rfl) ?_ _
  go_wp2
  go_ret
  exact ⟨rfl, FB.out⟩
theorem mayGo_no {h : Hs} {s : Sh} {a b : Cm} (e : Hs.pairK h s a b ≠ 0) : Hs.mayGo h s a b = false := by
  unfold Hs.pairK at e
  unfold Hs.mayGo
  by_cases k1 : h.shaft s = 0
  · rw [if_pos k1] at e
    by_cases k2 : h.cmd a = 0
    · rw [if_pos k2] at e
      have : (h.cmd b == 0) = false := by simpa using e
      rw [this]; simp
    · have : (h.cmd a == 0) = false := by simpa using k2
      rw [this]; simp
  · have : (h.shaft s == 0) = false := by simpa using k1
    rw [this]; simp
theorem mayGo_yes {h : Hs} {s : Sh} {a b : Cm} (e : Hs.pairK h s a b = 0) : Hs.mayGo h s a b = Hs.may h s a b := by
  obtain ⟨z1, z2, z3⟩ := pair_zero e
  unfold Hs.mayGo
  rw [z1, z2, z3]; simp
end Go.Proofs.Ytclfdfcakmgffaa
